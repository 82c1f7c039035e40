/- Texts laid together: Package record: Answer, by its contract; The reference's Fits, AnswerWord and AnswerOf, by their contracts; errors.As at a target of type Errno, by its contracts (after the guide's worked text for a pointer target); An error taken apart: api.Tell, plain.Place, bare, at nil and at an Errno, by their contracts; The library's handle, behind all that a call lays; The library's handle of the type error, off the row's condition; Arguments that are arrays of words, as it lies in the call; An argument that is a record, as it lies in the call. -/
import Derived.Test.YtgkgkiheoadbfaaDoorPk00
import Derived.Deep.DeepCutAuto
import Derived.Deep.RegionHeld3
import Derived.Test.YtgkgkiheoadbfaaDoorRows
import Derived.WalkKit
import Derived.LaidEql
import Derived.Stop.Asserts
import Derived.RowKitTokens
import Derived.Test.YtgkgkiheoadbfaaDoorTie
import Derived.ProofKit
import Derived.LaidMore
import Derived.LaidLaws
import Derived.LaidHandle
import Derived.OpenShut
import Derived.Stop.Joined
import Derived.Carry
namespace Go.Proofs.YtgkgkiheoadbfaaDoor.Tab
set_option maxRecDepth 20000
open Go.RowKit
set_option linter.unusedVariables false

theorem res1ss {P : Program} {fn : Func} {p q r : Tmp} {ty : TypeId} {tmps : Array Value} {w : World} {b : Nat} {cs : List Value} (h : fn.results = #[.cell p ty, .tmp q, .tmp r]) (hB : Bo w b cs) (r1 : Rw P ty cs) (v u : Value) (hp : tmps.getD p undef = .pointer (some ⟨b, 0, none⟩) := by rfl) (hq : tmps.getD q undef = v := by rfl) (hr : tmps.getD r undef = u := by rfl) :
    (results fn tmps).run P w = .ok (.tuple #[.agg cs.toArray, v, u]) w := by
  obtain ⟨d, h1, h2⟩ := r1.lay
  have hp' : tmps[p]?.getD undef = .pointer (some ⟨b, 0, none⟩) := by simpa using hp
  have hq' : tmps[q]?.getD undef = v := by simpa using hq
  have hr' : tmps[r]?.getD undef = u := by simpa using hr
  simp [results, h, hp', hq', hr', asAddr, run_loadVar_mid w b 0 ty cs d hB.range h1 h2 r1.size]
set_option maxHeartbeats 2000000 in
theorem recAnswer_no (r : Nat → Nat) {t : Int} (h : t < 0 ∨ 4 ≤ t) (w : World) :
    Calls Tryd.prog 11 #[.agg (rl r).toArray, .int .i64 t] w (fun e w' => e = .returned (.tuple #[.agg #[.int .i64 0, .int .i64 0], .int .i64 0, .iface 31 (.int .i64 2)]) ∧ Below w.heap.size w w') := by
  have IT : Hid (∀ w : World, _) := isThread_no h
  clear h
  have hM : Hid _ := (((Ms.nil w).born (rl r) 24 (b := w.heap.size) rfl).born [.int .i64 0, .int .i64 0] 42 (b := w.heap.size + 1) (by simp))
  go_enter Tryd.func11, Tryd.ntmps11
  go_wp2_with fail
  refine (IT.out _).mono ?_
  rintro e ux ⟨rfl, hw⟩
  rw [hw]; clear hw ux
  go_wp2_with (first
    | (refine sR rfl (hM.out.at 0 rfl) rfl ((rwA 0 0).len (rwA 0 0)) (rwA 0 0) ?_
       replace hM := hid (hM.out.put 0 rfl [.int .i64 0, .int .i64 0] ((rwA 0 0).len (rwA 0 0)))
       generalize World.setCells _ _ _ _ = W at hM ⊢))
  exact bodyPost_ret (res1ss Tryd.results11 (hM.out.at 0 rfl) (rwA 0 0) (.int .i64 0) (.iface 31 (.int .i64 2))) rfl ⟨rfl, hM.out.below⟩
set_option maxHeartbeats 2000000 in
theorem recAnswer_none {r : Nat → Nat} (U : ∀ j, j < 32 → r j < 18446744073709551616) {i : Nat} (hi : i < 4) (ha : ¬ Aw (r (18 + i))) (w : World) :
    Calls Tryd.prog 11 #[.agg (rl r).toArray, .int .i64 (i : Nat)] w (fun e w' => e = .returned (.tuple #[.agg #[.int .i64 0, .int .i64 0], .int .i64 0, .iface 31 (.int .i64 8)]) ∧ Below w.heap.size w w') := by
  have IT : Hid (∀ w : World, _) := isThread_yes (t := (i : Nat)) (by omega) (by omega)
  have TO : Hid (∀ w : World, _) := fun w => told_no (U (18 + i) (by omega)) ha w
  have fa0 : (0 : Int) ≤ 18 + (i : Int) := by omega
  have fa1 : 18 + (i : Int) < 32 := by omega
  have fa2 : IntKind.i64.wrap (18 + (i : Int)) = 18 + i := by rw [IntKind.wrap_i64]; omega
  have fa3 : wrap64 (18 + (i : Int)) = 18 + i := by unfold wrap64; omega
  have fa4 : (18 + (i : Int)).toNat = 18 + i := by omega
  have fb0 : (0 : Int) ≤ 22 + (i : Int) := by omega
  have fb1 : 22 + (i : Int) < 32 := by omega
  have fb2 : IntKind.i64.wrap (22 + (i : Int)) = 22 + i := by rw [IntKind.wrap_i64]; omega
  have fb3 : wrap64 (22 + (i : Int)) = 22 + i := by unfold wrap64; omega
  have fb4 : (22 + (i : Int)).toNat = 22 + i := by omega
  have hx1 : 18 + i < 32 := by omega
  have hx2 : 22 + i < 32 := by omega
  obtain ⟨x, hx⟩ : ∃ x, r (18 + i) = x := ⟨_, rfl⟩
  have HX : Hid _ := hx
  rw [hx] at TO
  clear hx U ha hi
  have hM : Hid _ := (((Ms.nil w).born (rl r) 24 (b := w.heap.size) rfl).born [.int .i64 0, .int .i64 0] 42 (b := w.heap.size + 1) (by simp))
  have x1 := (hM.out.at 1 rfl).rwordx hx1 HX.out
  go_enter Tryd.func11, Tryd.ntmps11
  go_wp2_with fail
  refine (IT.out _).mono ?_
  rintro e ux ⟨rfl, hw⟩
  rw [hw]; clear hw ux
  go_wp2_with fail
  clear x1
  generalize World.alloc _ _ = W at hM ⊢
  generalize hsz : w.heap.size = n at hM ⊢
  clear hsz
  refine (TO.out _).mono ?_
  rintro e W ⟨rfl, hb⟩
  replace hM := hid (hM.out.later hb)
  clear hb
  obtain ⟨bq0, hq0⟩ : ∃ q, q = W.heap.size := ⟨_, rfl⟩
  replace hM := hid (hM.out.born [.int .i64 0, .int .i64 0] 42 hq0)
  have HQ : Hid _ := hq0
  clear hq0
  go_wp2_with (first
    | (rw [← HQ.out]; refine sR rfl (hM.out.at 0 rfl) rfl ((rwA 0 0).len (rwA _ _)) (rwA _ _) ?_
       replace hM := hid (hM.out.put 0 rfl [.int .i64 0, .int .i64 0] ((rwA 0 0).len (rwA _ _)))
       generalize World.setCells _ _ _ _ = W at hM ⊢)
    | (refine sR rfl (hM.out.at 1 rfl) rfl ((rwA 0 0).len (rwA 0 0)) (rwA 0 0) ?_
       replace hM := hid (hM.out.put 1 rfl [.int .i64 0, .int .i64 0] ((rwA 0 0).len (rwA 0 0)))
       generalize World.setCells _ _ _ _ = W at hM ⊢))
  exact bodyPost_ret (res1ss Tryd.results11 (hM.out.at 1 rfl) (rwA 0 0) (.int .i64 0) (.iface 31 (.int .i64 8))) rfl ⟨rfl, hM.out.below⟩
set_option maxHeartbeats 2000000 in
theorem recAnswer_yes {r : Nat → Nat} (U : ∀ j, j < 32 → r j < 18446744073709551616) {i : Nat} (hi : i < 4) (ha : Aw (r (18 + i))) (w : World) :
    Calls Tryd.prog 11 #[.agg (rl r).toArray, .int .i64 (i : Nat)] w (fun e w' => e = .returned (.tuple #[.agg #[.int .i64 (r (18 + i) / 4294967296 : Nat), .int .i64 (r (18 + i) % 4294967296 : Nat)], .int .i64 (IntKind.i64.wrap (r (22 + i) : Nat)), .nilIface]) ∧ Below w.heap.size w w') := by
  have IT : Hid (∀ w : World, _) := isThread_yes (t := (i : Nat)) (by omega) (by omega)
  have TO : Hid (∀ w : World, _) := fun w => told_yes (U (18 + i) (by omega)) ha w
  have fa0 : (0 : Int) ≤ 18 + (i : Int) := by omega
  have fa1 : 18 + (i : Int) < 32 := by omega
  have fa2 : IntKind.i64.wrap (18 + (i : Int)) = 18 + i := by rw [IntKind.wrap_i64]; omega
  have fa3 : wrap64 (18 + (i : Int)) = 18 + i := by unfold wrap64; omega
  have fa4 : (18 + (i : Int)).toNat = 18 + i := by omega
  have fb0 : (0 : Int) ≤ 22 + (i : Int) := by omega
  have fb1 : 22 + (i : Int) < 32 := by omega
  have fb2 : IntKind.i64.wrap (22 + (i : Int)) = 22 + i := by rw [IntKind.wrap_i64]; omega
  have fb3 : wrap64 (22 + (i : Int)) = 22 + i := by unfold wrap64; omega
  have fb4 : (22 + (i : Int)).toNat = 22 + i := by omega
  obtain ⟨y, hy⟩ : ∃ y, r (22 + i) = y := ⟨_, rfl⟩
  have hx1 : 18 + i < 32 := by omega
  have hx2 : 22 + i < 32 := by omega
  obtain ⟨x, hx⟩ : ∃ x, r (18 + i) = x := ⟨_, rfl⟩
  have HX : Hid _ := hx
  have HY : Hid _ := hy
  rw [hx] at TO ⊢
  rw [hy]
  clear hx U ha hi hy
  generalize x / 4294967296 = xa at *
  generalize x % 4294967296 = xb at *
  have hM : Hid _ := (((Ms.nil w).born (rl r) 24 (b := w.heap.size) rfl).born [.int .i64 0, .int .i64 0] 42 (b := w.heap.size + 1) (by simp))
  have x1 := (hM.out.at 1 rfl).rwordx hx1 HX.out
  go_enter Tryd.func11, Tryd.ntmps11
  go_wp2_with fail
  refine (IT.out _).mono ?_
  rintro e ux ⟨rfl, hw⟩
  rw [hw]; clear hw ux
  go_wp2_with fail
  clear x1
  generalize World.alloc _ _ = W at hM ⊢
  generalize hsz : w.heap.size = n at hM ⊢
  clear hsz
  refine (TO.out _).mono ?_
  rintro e W ⟨rfl, hb⟩
  replace hM := hid (hM.out.later hb)
  clear hb
  obtain ⟨bq0, hq0⟩ : ∃ q, q = W.heap.size := ⟨_, rfl⟩
  replace hM := hid (hM.out.born [.int .i64 0, .int .i64 0] 42 hq0)
  have HQ : Hid _ := hq0
  clear hq0
  go_wp2_with (first
    | (rw [← HQ.out]; refine sR rfl (hM.out.at 0 rfl) rfl ((rwA 0 0).len (rwA _ _)) (rwA _ _) ?_
       replace hM := hid (hM.out.put 0 rfl [.int .i64 (xa : Nat), .int .i64 (xb : Nat)] ((rwA 0 0).len (rwA _ _)))
       generalize World.setCells _ _ _ _ = W at hM ⊢))
  replace hM := hid (hM.out.drew)
  refine wp_region_held_drew (S := fun w' => Bo w' n (rl r) ∧ Bo w' bq0 [.int .i64 (xa : Nat), .int .i64 (xb : Nat)]) (by kernel_rfl) ⟨hM.out.at 2 rfl, hM.out.at 0 rfl⟩ (fun hH => ?_)
  generalize World.drew _ = W at hM hH  ⊢
  refine tk 0 rfl hH ?_ (by intro w h; have c0 := h.2.at 0 rfl; have c1 := h.2.at 1 rfl; clear h; go_simp; try with_reducible rfl)
  simp only [Act.put, p1, p2, p3]
  refine tk 1 rfl hH ?_
  simp only [Act.put, p1, p2, p3]
  refine tk 2 rfl hH ?_
  simp only [Act.put, p1, p2, p3]
  refine tk 3 rfl hH ?_
  simp only [Act.put, p1, p2, p3]
  refine tk 4 rfl hH ?_ (by intro w h; have c0 := h.1.rwordx hx2 HY.out; clear h; go_simp; try with_reducible rfl)
  simp only [Act.put, p1, p2, p3]
  refine tk 5 rfl hH ?_
  simp only [Act.put, p1, p2, p3]
  refine rd1 6 rfl (fun K hK => ?_)
  refine stR rfl (hM.out.at 1 rfl) ((rwA 0 0).len (rwA _ _)) (rwA _ _) ?_
  simp only [Act.put]
  replace hM := hid (hM.out.put 1 rfl [.int .i64 (xa : Nat), .int .i64 (xb : Nat)] ((rwA 0 0).len (rwA _ _)))
  refine hK.out _ _ ⟨hM.out.at 2 rfl, hM.out.at 0 rfl⟩ (fun hH => ?_)
  clear hK K
  generalize World.setCells _ _ _ _ = W at hM hH ⊢
  try simp only [Act.put, p1, p2, p3]
  refine tk 7 rfl hH ?_
  simp only [Act.put, p1, p2, p3]
  refine tk 8 rfl hH ?_
  simp only [Act.put, p1, p2, p3]
  refine wpAnyH_done (by kernel_rfl) ?_ _
  go_wp2
  exact bodyPost_ret (res1ss Tryd.results11 (hM.out.at 1 rfl) (rwA _ _) (.int .i64 (IntKind.i64.wrap (y : Nat))) .nilIface) rfl ⟨rfl, hM.out.below⟩
end Go.Proofs.YtgkgkiheoadbfaaDoor.Tab
namespace Go.Proofs.YtgkgkiheoadbfaaDoor.Tab
set_option maxRecDepth 20000
open Go.RowKit
set_option linter.unusedVariables false

theorem not_ftr {c v : Int} (h : ¬ Ft c v) : (c < 1 ∨ 5 < c) ∨ (1 ≤ c ∧ c ≤ 5) ∧ ((v < 0 ∨ 4294967295 < v) ∨ (0 ≤ v ∧ v ≤ 4294967295) ∧ c ≠ 1 ∧ v ≠ 0) := by
  have : ¬ (1 ≤ c ∧ c ≤ 5 ∧ 0 ≤ v ∧ v ≤ 4294967295 ∧ (c = 1 ∨ v = 0)) := h
  omega
theorem awithin_yes (n a b : Int) (w : World) (h1 : a ≤ n) (h2 : n ≤ b) :
    Calls Tryd.prog 14 #[.int .i64 n, .int .i64 a, .int .i64 b] w fun e w' => e = .returned (.bool true) ∧ w' = w := by
  go_enter Tryd.func14, Tryd.ntmps14
  go_wp2
  go_ret
  exact ⟨rfl, rfl⟩
theorem awithin_no (n a b : Int) (w : World) (h : n < a ∨ b < n) :
    Calls Tryd.prog 14 #[.int .i64 n, .int .i64 a, .int .i64 b] w fun e w' => e = .returned (.bool false) ∧ w' = w := by
  by_cases h1 : a ≤ n
  · have h2 : ¬ n ≤ b := by omega
    clear h
    go_enter Tryd.func14, Tryd.ntmps14
    go_wp2
    go_ret
    exact ⟨rfl, rfl⟩
  · clear h
    go_enter Tryd.func14, Tryd.ntmps14
    go_wp2
    go_ret
    exact ⟨rfl, rfl⟩
theorem RfFits_is {c v : Int} (h : Ft c v) (w : World) :
    Calls Tryd.prog 22 #[.agg #[.int .i64 c, .int .i64 v]] w fun e w' => e = .returned (.bool true) ∧ w' = w.alloc (.cells #[.int .i64 c, .int .i64 v] 42) := by
  obtain ⟨h1, h2, h3, h4, h5⟩ := h
  by_cases hc : c = 1
  · subst hc
    clear h5
    go_enter Tryd.func22, Tryd.ntmps22
    go_wp2_with (go_at_call 14; refine (awithin_yes _ _ _ _ (by omega) (by omega)).mono ?_; rintro e w' ⟨rfl, rfl⟩)
    go_ret
    exact ⟨rfl, rfl⟩
  · obtain rfl : v = 0 := by omega
    clear h5
    have hc' : (c == 1) = false := beq_eq_false_iff_ne.2 hc
    go_enter Tryd.func22, Tryd.ntmps22
    go_wp2_with (go_at_call 14; refine (awithin_yes _ _ _ _ (by omega) (by omega)).mono ?_; rintro e w' ⟨rfl, rfl⟩)
    go_ret
    exact ⟨rfl, rfl⟩

theorem RfFits_isnt {c v : Int} (h : ¬ Ft c v) (w : World) :
    Calls Tryd.prog 22 #[.agg #[.int .i64 c, .int .i64 v]] w fun e w' => e = .returned (.bool false) ∧ w' = w.alloc (.cells #[.int .i64 c, .int .i64 v] 42) := by
  rcases not_ftr h with h1 | ⟨⟨h1, h2⟩, h3 | ⟨⟨h3, h4⟩, hc, hv⟩⟩
  · clear h
    go_enter Tryd.func22, Tryd.ntmps22
    go_wp2_with (go_at_call 14; refine (awithin_no _ _ _ _ h1).mono ?_; rintro e w' ⟨rfl, rfl⟩)
    go_ret
    exact ⟨rfl, rfl⟩
  · clear h
    go_enter Tryd.func22, Tryd.ntmps22
    go_wp2_with fail
    refine (awithin_yes _ _ _ _ h1 h2).mono ?_
    rintro e w' ⟨rfl, rfl⟩
    go_wp2_with fail
    refine (awithin_no _ _ _ _ h3).mono ?_
    rintro e w' ⟨rfl, rfl⟩
    go_wp2
    go_ret
    exact ⟨rfl, rfl⟩
  · clear h
    have hv' : (v == 0) = false := beq_eq_false_iff_ne.2 hv
    have hc' : (c == 1) = false := beq_eq_false_iff_ne.2 hc
    go_enter Tryd.func22, Tryd.ntmps22
    go_wp2_with fail
    refine (awithin_yes _ _ _ _ h1 h2).mono ?_
    rintro e w' ⟨rfl, rfl⟩
    go_wp2_with fail
    refine (awithin_yes _ _ _ _ h3 h4).mono ?_
    rintro e w' ⟨rfl, rfl⟩
    go_wp2
    go_ret
    exact ⟨rfl, rfl⟩

theorem RfAnswer_no {c v : Int} (h : ¬ Ft c v) (w : World) :
    Calls Tryd.prog 18 #[.agg #[.int .i64 c, .int .i64 v]] w fun e w' => e = .returned (.tuple #[.int .u64 0, .int .i64 1]) ∧ Gr w w' := by
  go_enter Tryd.func18, Tryd.ntmps18
  go_wp2_with (go_at_call 22; refine (RfFits_isnt h _).mono ?_; rintro e w' ⟨rfl, rfl⟩)
  go_ret2
  exact ⟨rfl, ((Gr.refl w).alloc _ _).alloc _ _⟩

theorem RfAnswer_yes {c v : Nat} (h : Ft c v) (w : World) :
    Calls Tryd.prog 18 #[.agg #[.int .i64 c, .int .i64 v]] w fun e w' => e = .returned (.tuple #[.int .u64 (ansN c v : Nat), .int .i64 0]) ∧ Gr w w' := by
  obtain ⟨h1, h2, h3, h4, h5⟩ := id h
  clear h5
  go_enter Tryd.func18, Tryd.ntmps18
  go_wp2_with (go_at_call 22; refine (RfFits_is h _).mono ?_; rintro e w' ⟨rfl, rfl⟩)
  go_ret2
  exact ⟨ret_pair' (by unfold ansN; omega), ((Gr.refl w).alloc _ _).alloc _ _⟩

theorem RfTold_core (x : Nat) (hx : (x : Int) < 18446744073709551616) (a b : Int) (w : World) (e0 : (x : Int) / 4294967296 = a) (e2 : (x : Int) % 4294967296 = b) (h : Ft a b) :
    Calls Tryd.prog 12 #[.int .u64 x] w fun e w' => e = .returned (.tuple #[.agg #[.int .i64 a, .int .i64 b], .int .i64 0]) ∧ Gr w w' := by
  go_enter Tryd.func12, Tryd.ntmps12
  go_wp2_with (go_at_call 22; refine (RfFits_is h _).mono ?_; rintro e w' ⟨rfl, rfl⟩)
  exact bodyPost_ret (v := .tuple #[.agg #[.int .i64 a, .int .i64 b], .int .i64 0]) (by simp [results, Tryd.results12, go_sem]) rfl ⟨rfl, (((Gr.refl w).alloc _ _).alloc _ _).alloc _ _⟩

theorem RfTold_cono (x : Nat) (hx : (x : Int) < 18446744073709551616) (a b : Int) (w : World) (e0 : (x : Int) / 4294967296 = a) (e2 : (x : Int) % 4294967296 = b) (h : ¬ Ft a b) :
    Calls Tryd.prog 12 #[.int .u64 x] w fun e w' => e = .returned (.tuple #[.agg #[.int .i64 0, .int .i64 0], .int .i64 3]) ∧ Gr w w' := by
  go_enter Tryd.func12, Tryd.ntmps12
  go_wp2_with (go_at_call 22; refine (RfFits_isnt h _).mono ?_; rintro e w' ⟨rfl, rfl⟩)
  exact bodyPost_ret (v := .tuple #[.agg #[.int .i64 0, .int .i64 0], .int .i64 3]) (by simp [results, Tryd.results12, go_sem]) rfl ⟨rfl, (((Gr.refl w).alloc _ _).alloc _ _).alloc _ _⟩

theorem RfTold_yes {c v : Nat} (h : Ft c v) (w : World) :
    Calls Tryd.prog 12 #[.int .u64 (ansN c v : Nat)] w fun e w' => e = .returned (.tuple #[.agg #[.int .i64 c, .int .i64 v], .int .i64 0]) ∧ Gr w w' := by
  obtain ⟨p1, p2⟩ := ansN_parts h
  have hx := ansN_lt h
  exact RfTold_core _ (by omega) _ _ w (by omega) (by omega) h

theorem RfTold_no (x : Nat) (hx : x < 18446744073709551616) (h : NoAns x) (w : World) :
    Calls Tryd.prog 12 #[.int .u64 (x : Nat)] w fun e w' => e = .returned (.tuple #[.agg #[.int .i64 0, .int .i64 0], .int .i64 3]) ∧ Gr w w' :=
  RfTold_cono x (by omega) _ _ w (by omega) (by omega) h


theorem rtold_yes {x : Nat} (hx : x < 18446744073709551616) (h : Aw x) (w : World) :
    Calls Tryd.prog 12 #[.int .u64 (x : Nat)] w fun e w' => e = .returned (.tuple #[.agg #[.int .i64 (x / 4294967296 : Nat), .int .i64 (x % 4294967296 : Nat)], .int .i64 0]) ∧ Below w.heap.size w w' :=
  (RfTold_core x (by omega) _ _ w (by omega) (by omega) h).mono fun _ _ ⟨he, hg⟩ => ⟨he, hg.below⟩
theorem rtold_no {x : Nat} (hx : x < 18446744073709551616) (h : ¬ Aw x) (w : World) :
    Calls Tryd.prog 12 #[.int .u64 (x : Nat)] w fun e w' => e = .returned (.tuple #[.agg #[.int .i64 0, .int .i64 0], .int .i64 3]) ∧ Below w.heap.size w w' :=
  (RfTold_cono x (by omega) _ _ w (by omega) (by omega) h).mono fun _ _ ⟨he, hg⟩ => ⟨he, hg.below⟩
/-- AnswerWord, of what a word is told as. -/
theorem rword_yes {x : Nat} (h : Aw x) (w : World) :
    Calls Tryd.prog 18 #[.agg #[.int .i64 (x / 4294967296 : Nat), .int .i64 (x % 4294967296 : Nat)]] w fun e w' => e = .returned (.tuple #[.int .u64 (x : Nat), .int .i64 0]) ∧ Below w.heap.size w w' :=
  (RfAnswer_yes h w).mono fun _ _ ⟨he, hg⟩ => ⟨by rw [ansN_of] at he; exact he, hg.below⟩
theorem rword_no {c v : Int} (h : ¬ Ft c v) (w : World) :
    Calls Tryd.prog 18 #[.agg #[.int .i64 c, .int .i64 v]] w fun e w' => e = .returned (.tuple #[.int .u64 0, .int .i64 1]) ∧ Below w.heap.size w w' :=
  (RfAnswer_no h w).mono fun _ _ ⟨he, hg⟩ => ⟨he, hg.below⟩
end Go.Proofs.YtgkgkiheoadbfaaDoor.Tab
namespace Go.Proofs.YtgkgkiheoadbfaaDoor
set_option maxRecDepth 20000
open Go.RowKit Go.Extern.Stop Go.Stop Go.Extern

theorem As.valueOfP (t : Addr) (w : World) : (ReflectliteValue.unpack (.iface 88 (.pointer (some t)))).run Tryd.prog w
    = .ok (.agg #[.pointer (some ⟨4, 88, none⟩), .pointer (some ⟨w.heap.size, 0, none⟩), .int .u64 150]) (w.alloc (.cells #[.pointer (some t)] 88)) := by kernel_rfl
theorem As.typeP (a : Addr) (w : World) : (ReflectliteValue.methodAny (ReflectliteValue.valueError "reflectlite.Value.Type" 0) (fun t _ _ _ => ReflectliteType.toType t) #[.agg #[.pointer (some ⟨4, 88, none⟩), .pointer (some a), .int .u64 150]]).run Tryd.prog w
    = .ok (.iface 116 (.agg #[.pointer (some ⟨4, 88, none⟩)])) w := by kernel_rfl
theorem As.methodKind (h : Value) (w : World) : (Go.method 255 116 (.agg #[h]) "Kind").run Tryd.prog w = .ok (55, h) w := by kernel_rfl
theorem As.kindP (w : World) : ((ReflectliteType.abiMethod fun t => (fun a : Nat => Value.int IntKind.u8 (a : Int)) <$> Rtype.kind t) #[.pointer (some ⟨4, 88, none⟩)]).run Tryd.prog w = .ok (.int .u8 22) w := by kernel_rfl
theorem As.kindE (w : World) : ((ReflectliteType.abiMethod fun t => (fun a : Nat => Value.int IntKind.u8 (a : Int)) <$> Rtype.kind t) #[.pointer (some ⟨4, 31, none⟩)]).run Tryd.prog w = .ok (.int .u8 2) w := by kernel_rfl

theorem As.partsP (a : Addr) (w : World) : (ReflectliteValue.parts (.agg #[.pointer (some ⟨4, 88, none⟩), .pointer (some a), .int .u64 150])).run Tryd.prog w = .ok (some (88, a, 150)) w := by kernel_rfl
theorem As.isNilP (a p : Addr) (W : World) (ha : W.cell? a = some (.pointer (some p))) :
    (ReflectliteValue.method (ReflectliteValue.valueError "reflectlite.Value.IsNil" 0) ReflectliteValue.isNil #[.agg #[.pointer (some ⟨4, 88, none⟩), .pointer (some a), .int .u64 150]]).run Tryd.prog W = .ok (.bool false) W := by
  delta ReflectliteValue.method ReflectliteValue.method.match_2
  simp [Array.getLit, As.partsP, ReflectliteValue.isNil, loadVar, isAgg, underlying, Tryd.underlying88, ha, Result.andThen]

theorem As.methodElem (h : Value) (w : World) : (Go.method 255 116 (.agg #[h]) "Elem").run Tryd.prog w = .ok (68, .agg #[h]) w := by kernel_rfl
theorem As.methodImplements (h : Value) (w : World) : (Go.method 255 116 (.agg #[h]) "Implements").run Tryd.prog w = .ok (69, .agg #[h]) w := by kernel_rfl
theorem As.methodAssignableTo (h : Value) (w : World) : (Go.method 255 116 (.agg #[h]) "AssignableTo").run Tryd.prog w = .ok (66, .agg #[h]) w := by kernel_rfl
theorem As.elemP (w : World) : (ReflectliteType.method ReflectliteType.elem #[.agg #[.pointer (some ⟨4, 88, none⟩)]]).run Tryd.prog w = .ok (.iface 116 (.agg #[.pointer (some ⟨4, 31, none⟩)])) w := by kernel_rfl
theorem As.implementsE (w : World) : (ReflectliteType.relation "Implements" ReflectliteType.implements_ #[.agg #[.pointer (some ⟨4, 31, none⟩)], .iface 116 (.agg #[.pointer (some ⟨4, 26, none⟩)])]).run Tryd.prog w = .ok (.bool true) w := by kernel_rfl
theorem As.typeOfE (v : Value) (w : World) : (ReflectliteType.typeOf #[.iface 31 v]).run Tryd.prog w = .ok (.iface 116 (.agg #[.pointer (some ⟨4, 31, none⟩)])) w := by kernel_rfl
theorem As.assignableE (w : World) : (ReflectliteType.relation "AssignableTo" ReflectliteType.assignableTo #[.agg #[.pointer (some ⟨4, 31, none⟩)], .iface 116 (.agg #[.pointer (some ⟨4, 31, none⟩)])]).run Tryd.prog w = .ok (.bool true) w := by kernel_rfl
theorem As.valueOfE (n : Int) (w : World) : (ReflectliteValue.unpack (.iface 31 (.int .i64 n))).run Tryd.prog w
    = .ok (.agg #[.pointer (some ⟨4, 31, none⟩), .pointer (some ⟨w.heap.size, 0, none⟩), .int .u64 130]) (w.alloc (.cells #[.int .i64 n] 31)) := by kernel_rfl
theorem As.elemOfP (w : World) : (Rtype.elem? 88).run Tryd.prog w = .ok (some 31) w := by kernel_rfl
theorem As.mkE (p : Addr) (w : World) : (ReflectliteValue.mk 31 p ReflectliteValue.flagAddr).run Tryd.prog w = .ok (.agg #[.pointer (some ⟨4, 31, none⟩), .pointer (some p), .int .u64 386]) w := by kernel_rfl
theorem As.elemVP (a p : Addr) (W : World) (ha : W.cell? a = some (.pointer (some p))) :
    (ReflectliteValue.method (ReflectliteValue.valueError "reflectlite.Value.Elem" 0) ReflectliteValue.elem #[.agg #[.pointer (some ⟨4, 88, none⟩), .pointer (some a), .int .u64 150]]).run Tryd.prog W
      = .ok (.agg #[.pointer (some ⟨4, 31, none⟩), .pointer (some p), .int .u64 386]) W := by
  delta ReflectliteValue.method ReflectliteValue.method.match_2
  simp [Array.getLit, As.partsP, ReflectliteValue.elem, loadVar, isAgg, underlying, Tryd.underlying88, ha, Result.andThen, As.elemOfP, As.mkE]
theorem As.partsEa (a : Addr) (w : World) : (ReflectliteValue.parts (.agg #[.pointer (some ⟨4, 31, none⟩), .pointer (some a), .int .u64 386])).run Tryd.prog w = .ok (some (31, a, 386)) w := by kernel_rfl
theorem As.partsE (a : Addr) (w : World) : (ReflectliteValue.parts (.agg #[.pointer (some ⟨4, 31, none⟩), .pointer (some a), .int .u64 130])).run Tryd.prog w = .ok (some (31, a, 130)) w := by kernel_rfl
theorem As.directE (w : World) : (Rtype.directlyAssignable 31 31).run Tryd.prog w = .ok true w := by kernel_rfl
theorem As.setE (ta b : Addr) (n : Int) (old : Value) (W : World) (hb : W.cell? b = some (.int .i64 n)) (ht : W.cell? ta = some old) (hf : W.frozen? ta = false) :
    (ReflectliteValue.set #[.agg #[.pointer (some ⟨4, 31, none⟩), .pointer (some ta), .int .u64 386], .agg #[.pointer (some ⟨4, 31, none⟩), .pointer (some b), .int .u64 130]]).run Tryd.prog W
      = .ok (.tuple #[]) (W.setCell ta (.int .i64 n)) := by
  delta ReflectliteValue.set ReflectliteValue.set.match_3
  simp [Array.getLit, As.partsEa, As.partsE, ReflectliteValue.flagAddr, loadVar, isAgg, underlying, Tryd.underlying31, hb, Result.andThen, As.directE, storeVar, Value.cells, storeCells, Addr.add]
  rw [run_store Tryd.prog W ta _ _ (by rfl)]
  simp [ht, hf]

set_option maxHeartbeats 4000000 in
theorem as_errno (n : Int) (t : Addr) (old : Value) (w : World) (hg : w.cell? ⟨2, 0, none⟩ = some (.iface 116 (.agg #[.pointer (some ⟨4, 26, none⟩)]))) (ht0 : w.cell? t = some old) (hf0 : w.frozen? t = false) :
    Calls Tryd.prog 30 #[.iface 31 (.int .i64 n), .iface 88 (.pointer (some t))] w fun ev w' => ev = .returned (.bool true) ∧ w' = ((((w.alloc (.cells #[.pointer (some t)] 88)).alloc (.cells #[.pointer (some ⟨4, 88, none⟩), .pointer (some ⟨w.heap.size, 0, none⟩), .int .u64 150] 103)).alloc (.cells #[.pointer (some ⟨4, 88, none⟩), .pointer (some ⟨w.heap.size, 0, none⟩), .int .u64 150] 103)).alloc (.cells #[.int .i64 n] 31)).setCell t (.int .i64 n) := by
  have hF0 := @run_callFunc_extern Tryd.prog 34 _ (fun args => ReflectliteValue.unpack (args.getD 0 (.tuple #[]))) Tryd.func34 (by kernel_rfl) (by kernel_rfl) (by kernel_rfl) (by kernel_rfl)
  have hF1 := @run_callFunc_extern Tryd.prog 35 _ (ReflectliteValue.methodAny (ReflectliteValue.valueError "reflectlite.Value.Type" 0) (fun t _ _ _ => ReflectliteType.toType t)) Tryd.func35 (by kernel_rfl) (by kernel_rfl) (by kernel_rfl) (by kernel_rfl)
  have hF2 := @run_callFunc_extern Tryd.prog 36 _ (ReflectliteValue.method (ReflectliteValue.valueError "reflectlite.Value.IsNil" 0) ReflectliteValue.isNil) Tryd.func36 (by kernel_rfl) (by kernel_rfl) (by kernel_rfl) (by kernel_rfl)
  have hF3 := @run_callFunc_extern Tryd.prog 55 _ (ReflectliteType.abiMethod fun t => do pure (.int .u8 (← Rtype.kind t))) Tryd.func55 (by kernel_rfl) (by kernel_rfl) (by kernel_rfl) (by kernel_rfl)
  have hF4 := @run_callFunc_extern Tryd.prog 68 _ (ReflectliteType.method ReflectliteType.elem) Tryd.func68 (by kernel_rfl) (by kernel_rfl) (by kernel_rfl) (by kernel_rfl)
  have hF5 := @run_callFunc_extern Tryd.prog 69 _ (ReflectliteType.relation "Implements" ReflectliteType.implements_) Tryd.func69 (by kernel_rfl) (by kernel_rfl) (by kernel_rfl) (by kernel_rfl)
  have hF6 := @run_callFunc_extern Tryd.prog 38 _ ReflectliteType.typeOf Tryd.func38 (by kernel_rfl) (by kernel_rfl) (by kernel_rfl) (by kernel_rfl)
  have hF7 := @run_callFunc_extern Tryd.prog 66 _ (ReflectliteType.relation "AssignableTo" ReflectliteType.assignableTo) Tryd.func66 (by kernel_rfl) (by kernel_rfl) (by kernel_rfl) (by kernel_rfl)
  have hF8 := @run_callFunc_extern Tryd.prog 39 _ (ReflectliteValue.method (ReflectliteValue.valueError "reflectlite.Value.Elem" 0) ReflectliteValue.elem) Tryd.func39 (by kernel_rfl) (by kernel_rfl) (by kernel_rfl) (by kernel_rfl)
  have hF9 := @run_callFunc_extern Tryd.prog 40 _ ReflectliteValue.set Tryd.func40 (by kernel_rfl) (by kernel_rfl) (by kernel_rfl) (by kernel_rfl)
  have tO := As.typeOfE
  have mA := As.methodAssignableTo
  have aE := As.assignableE
  have vE := As.valueOfE
  have vP := As.valueOfP
  have tP := As.typeP
  have mK := As.methodKind
  have mE := As.methodElem
  have mI := As.methodImplements
  have kP := As.kindP
  have kE := As.kindE
  have eP := As.elemP
  have iE := As.implementsE
  have n8 := As.isNilP ⟨w.heap.size, 0, none⟩ t ((w.alloc (.cells #[.pointer (some t)] 88)).alloc (.cells #[.pointer (some ⟨4, 88, none⟩), .pointer (some ⟨w.heap.size, 0, none⟩), .int .u64 150] 103)) (by simp)
  have hlt : 2 < w.heap.size := by
    rcases Nat.lt_or_ge 2 w.heap.size with h | h
    · exact h
    · simp [World.cell?, Array.getElem?_eq_none h] at hg
  have hg2 : ((w.alloc (.cells #[.pointer (some t)] 88)).alloc (.cells #[.pointer (some ⟨4, 88, none⟩), .pointer (some ⟨w.heap.size, 0, none⟩), .int .u64 150] 103)).cell? ⟨2, 0, none⟩ = some (.iface 116 (.agg #[.pointer (some ⟨4, 26, none⟩)])) := by
    rw [World.cell?_alloc_lt _ _ ⟨2, 0, none⟩ (by simp <;> omega), World.cell?_alloc_lt _ _ ⟨2, 0, none⟩ hlt]; exact hg
  have htl : t.block < w.heap.size := by
    rcases Nat.lt_or_ge t.block w.heap.size with h | h
    · exact h
    · simp [World.cell?, Array.getElem?_eq_none h] at ht0
  have el := As.elemVP ⟨w.heap.size, 0, none⟩ t (((w.alloc (.cells #[.pointer (some t)] 88)).alloc (.cells #[.pointer (some ⟨4, 88, none⟩), .pointer (some ⟨w.heap.size, 0, none⟩), .int .u64 150] 103)).alloc (.cells #[.pointer (some ⟨4, 88, none⟩), .pointer (some ⟨w.heap.size, 0, none⟩), .int .u64 150] 103)) (by rw [World.cell?_alloc_lt _ _ ⟨w.heap.size, 0, none⟩ (by simp; omega)]; simp)
  have st := As.setE t ⟨w.heap.size + 1 + 1 + 1, 0, none⟩ n old ((((w.alloc (.cells #[.pointer (some t)] 88)).alloc (.cells #[.pointer (some ⟨4, 88, none⟩), .pointer (some ⟨w.heap.size, 0, none⟩), .int .u64 150] 103)).alloc (.cells #[.pointer (some ⟨4, 88, none⟩), .pointer (some ⟨w.heap.size, 0, none⟩), .int .u64 150] 103)).alloc (.cells #[.int .i64 n] 31))
    (by rw [World.cell?_alloc_at _ _ _ _ (by simp)]; rfl)
    (by rw [World.cell?_alloc_lt _ _ t (by simp; omega), World.cell?_alloc_lt _ _ t (by simp; omega), World.cell?_alloc_lt _ _ t (by simp; omega), World.cell?_alloc_lt _ _ t htl]; exact ht0)
    (by rw [World.frozen?_alloc_old _ _ t (by simp; omega), World.frozen?_alloc_old _ _ t (by simp; omega), World.frozen?_alloc_old _ _ t (by simp; omega), World.frozen?_alloc_old _ _ t (Nat.ne_of_lt htl)]; exact hf0)
  go_enter Tryd.func30, Tryd.ntmps30
  go_wp2
  refine wp_loop_rounds 1 ?_
  rw [rounds_succ]
  go_wp2
  go_ret
  exact ⟨rfl, rfl⟩
end Go.Proofs.YtgkgkiheoadbfaaDoor
namespace Go.Proofs.YtgkgkiheoadbfaaDoor
set_option maxRecDepth 20000
open Go.RowKit

/-- The library's handle of the type error in its variable. -/
def HandleAt (w : World) : Prop := w.cell? ⟨2, 0, none⟩ = some (.iface 116 (.agg #[.pointer (some ⟨4, 26, none⟩)]))

theorem size_of_cell' {w : World} {b o : Nat} {v : Value} (h : w.cell? ⟨b, o, none⟩ = some v) : b < w.heap.size := by
  by_cases hb : b < w.heap.size
  · exact hb
  · have e : w.heap[b]? = none := by simp; omega
    simp [World.cell?, e] at h

theorem HandleAt.later {w w' : World} (h : HandleAt w) (g : Gr w w') : HandleAt w' := (g.cell (size_of_cell' h)).trans h

theorem tell_nil (w : World) : Calls Tryd.prog 25 #[.nilIface] w fun e w' => e = .returned (.int .i64 0) ∧ w' = w := by
  go_enter Tryd.func25, Tryd.ntmps25
  go_wp2
  go_ret
  exact ⟨rfl, rfl⟩

theorem as_errno' (n : Int) (t : Addr) (old : Value) (w : World) (hg : HandleAt w) (ht0 : w.cell? t = some old) (hf0 : w.frozen? t = false) :
    Calls Tryd.prog 30 #[.iface 31 (.int .i64 n), .iface 88 (.pointer (some t))] w fun e w' => e = .returned (.bool true) ∧ ∃ W, Gr w W ∧ w' = W.setCell t (.int .i64 n) :=
  (as_errno n t old w hg ht0 hf0).mono fun _ _ ⟨he, hw⟩ => ⟨he, _, ((((Gr.refl w).alloc _ _).alloc _ _).alloc _ _).alloc _ _, hw⟩

theorem tell_errno (n : Int) (w : World) (hH : HandleAt w) :
    Calls Tryd.prog 25 #[.iface 31 (.int .i64 n)] w fun e w' => e = .returned (.int .i64 n) ∧ Gr w w' := by
  have H1 : Hid (HandleAt (w.alloc (.cells #[.int .i64 0] 31))) := hH.later ((Gr.refl w).alloc _ _)
  clear hH
  go_enter Tryd.func25, Tryd.ntmps25
  go_wp2_with fail
  refine (as_errno' n ⟨w.heap.size, 0, none⟩ (.int .i64 0) _ H1.out (by simp) ((frozen?_alloc_cells _ _ _ _).trans (frozen_past w (Nat.le_refl _)))).mono ?_
  rintro e w' ⟨rfl, W, hW, rfl⟩
  have hc : (W.setCell ⟨w.heap.size, 0, none⟩ (.int .i64 n)).cell? ⟨w.heap.size, 0, none⟩ = some (.int .i64 n) := by
    refine World.cell?_setCell_same _ _ _ (u := .int .i64 0) ?_
    rw [hW.cell (by simp)]
    simp
  have hG : Gr w (W.setCell ⟨w.heap.size, 0, none⟩ (.int .i64 n)) := (((Gr.refl w).alloc _ _).trans hW).setCell (Nat.le_refl _) _
  generalize W.setCell ⟨w.heap.size, 0, none⟩ (.int .i64 n) = W2 at hc hG
  clear hW H1
  go_wp2
  go_ret
  exact ⟨rfl, hG⟩

theorem place_nil (w : World) : Calls Tryd.prog 16 #[.nilIface] w fun e w' => e = .returned (.tuple #[.int .i64 0, .int .i64 (-1)]) ∧ w' = w := by
  go_enter Tryd.func16, Tryd.ntmps16
  go_wp2_with fail
  refine (tell_nil _).mono ?_
  rintro e w' ⟨rfl, rfl⟩
  go_wp2_with fail
  refine wp_loop_rounds 1 ?_
  rw [rounds_succ]
  go_wp2
  go_ret2
  exact ⟨rfl, rfl⟩

theorem noAt (n : Int) (w : World) : (Instr.typeAssert (.iface 31 (.int .i64 n)) 26 71 true).run Tryd.prog w = .ok (.tuple #[.pointer none, .bool false]) w := by kernel_rfl
theorem noUnwrap (n : Int) (w : World) : (Instr.typeAssert (.iface 31 (.int .i64 n)) 26 75 true).run Tryd.prog w = .ok (.tuple #[.nilIface, .bool false]) w :=
  run_typeAssert_lacksB Tryd.underlying75 (by kernel_rfl) (by kernel_rfl) _ _ w

theorem place_errno (n : Int) (w : World) (hH : HandleAt w) :
    Calls Tryd.prog 16 #[.iface 31 (.int .i64 n)] w fun e w' => e = .returned (.tuple #[.int .i64 n, .int .i64 (-1)]) ∧ Gr w w' := by
  have h1 := noAt n
  have h2 := noUnwrap n
  go_enter Tryd.func16, Tryd.ntmps16
  go_wp2_with fail
  refine (tell_errno n _ hH).mono ?_
  rintro e w' ⟨rfl, hG⟩
  clear hH
  go_wp2_with fail
  refine wp_loop_rounds 1 ?_
  rw [rounds_succ]
  go_wp2
  go_ret2
  exact ⟨rfl, hG⟩

theorem bare_nil (n : Int) (w : World) :
    Calls Tryd.prog 7 #[.nilIface, .int .i64 n] w fun e w' => e = .returned (.bool (decide (n = 0))) ∧ w' = w := by
  by_cases hn : n = 0
  · subst hn
    go_enter Tryd.func7, Tryd.ntmps7
    go_wp2_with fail
    refine (place_nil _).mono ?_
    rintro e w' ⟨rfl, rfl⟩
    go_wp2
    go_ret
    exact ⟨rfl, rfl⟩
  · have hb : ((0 : Int) == n) = false := beq_eq_false_iff_ne.2 (by omega)
    rw [decide_eq_false hn]
    go_enter Tryd.func7, Tryd.ntmps7
    go_wp2_with fail
    refine (place_nil _).mono ?_
    rintro e w' ⟨rfl, rfl⟩
    go_wp2
    go_ret
    exact ⟨rfl, rfl⟩

theorem bare_errno (n m : Int) (w : World) (hH : HandleAt w) :
    Calls Tryd.prog 7 #[.iface 31 (.int .i64 n), .int .i64 m] w fun e w' => e = .returned (.bool (decide (n = m))) ∧ Gr w w' := by
  by_cases hn : n = m
  · subst hn
    rw [decide_eq_true rfl]
    go_enter Tryd.func7, Tryd.ntmps7
    go_wp2_with fail
    refine (place_errno n _ hH).mono ?_
    rintro e w' ⟨rfl, hG⟩
    go_wp2
    go_ret
    exact ⟨rfl, hG⟩
  · have hb : (n == m) = false := beq_eq_false_iff_ne.2 hn
    rw [decide_eq_false hn]
    go_enter Tryd.func7, Tryd.ntmps7
    go_wp2_with fail
    refine (place_errno n _ hH).mono ?_
    rintro e w' ⟨rfl, hG⟩
    go_wp2
    go_ret
    exact ⟨rfl, hG⟩
end Go.Proofs.YtgkgkiheoadbfaaDoor
namespace Go.Proofs.YtgkgkiheoadbfaaDoor
set_option maxRecDepth 20000
open Go.RowKit
theorem HandleAt.below {w a : World} (h : HandleAt w) (g : Below w.heap.size w a) : HandleAt a := by
  have h' : w.cell? ⟨2, 0, none⟩ = _ := h
  exact (g.cell (p := ⟨2, 0, none⟩) (size_of_cell' h')).trans h'
end Go.Proofs.YtgkgkiheoadbfaaDoor
namespace Go.Proofs.YtgkgkiheoadbfaaDoor
set_option maxRecDepth 20000
open Go.ChangeShapes Go.WideShapes Go.ChangeAt Go.RowKit

theorem own : ownKnob Tryd.prog.godebug = none := by kernel_rfl
theorem gHandle : Tryd.prog.globalNamed "errors.errorType" = some 2 := by kernel_rfl
theorem rtHandle : (Tryd.prog.cutTypes.find? (·.1 == "internal/reflectlite.rtype")).map (·.2) = some 116 := by kernel_rfl
theorem oneRow : ((List.range 155).filter fun t => Tryd.prog.rowNamed t [101, 114, 114, 111, 114]) = [26] := by kernel_rfl
theorem typesSize : Tryd.prog.types.size = 155 := by kernel_rfl

abbrev laidHandle {H : Type} : List (String × DataW H) := [("errors.errorType", Rows.laid_errors_errorType)]

theorem door_handle (os : Os) (args : Array Value) : laidMetH Tryd.prog laidHandle ((World.doorLaid Tryd.prog 400 os).forCall (fun _ _ => 0) ⟨#[], args, []⟩).memory :=
  laidMetH_of_parts (laidMet_nil _ _) (by kernel_rfl)

theorem handle_of_laid {W : World} (h : laidMetH Tryd.prog laidHandle W) : HandleAt W := by
  have h' : laidMet Tryd.prog [] W ∧ handlesMet Tryd.prog laidHandle W := h
  obtain ⟨name, u, ty, e1, e2, e3, e4, e5⟩ := h'.2 _ (List.mem_singleton.2 rfl)
  have en : name = [101, 114, 114, 111, 114] := (Option.some.inj e1).symm
  subst en
  obtain rfl := Option.some.inj (rtHandle.symm.trans e2)
  have hm : ty ∈ (List.range 155).filter fun t => Tryd.prog.rowNamed t [101, 114, 114, 111, 114] := List.mem_filter.2 ⟨List.mem_range.2 (by rw [← typesSize]; exact e3), e4⟩
  rw [oneRow] at hm
  obtain rfl := List.mem_singleton.1 hm
  have hh : typeHandle Tryd.prog 26 = .pointer (some ⟨4, 26, none⟩) := by kernel_rfl
  rw [hh] at e5
  have := World.var?_cell gHandle e5 0
  rw [HandleAt, this]
  rfl
end Go.Proofs.YtgkgkiheoadbfaaDoor
namespace Go.Proofs.YtgkgkiheoadbfaaDoor
set_option maxRecDepth 20000
open Go.ChangeShapes Go.WideShapes Go.ChangeAt Go.RowKit

theorem okWide_arr {P : Program} {w : World} {r : Reach} {base : Nat} {t e : TypeId} {n : Nat} {v : Value} (ht : P.underlying t = some (.array n e)) (h : Value.okWide P w r base t v) : ∃ cs, v = .agg cs ∧ cs.size = P.cellsOf t := by
  simp only [Value.okWide, ht] at h
  obtain ⟨cs, h1, h2, _⟩ := h
  exact ⟨cs, h1, h2⟩
theorem wf_u64 {x : Int} (h : (Lit.int .u64 x).wf = true) : 0 ≤ x ∧ x < 18446744073709551616 := by
  simp [Lit.wf, IntKind.min, IntKind.max] at h
  exact ⟨of_decide_eq_true h.1, by have := of_decide_eq_true h.2; simp [IntKind.signed, IntKind.bits] at this; omega⟩

theorem warr_of_trod {H : Type} {enc : TypeId × Value → H} {W : World} {r : Reach} {b0 n : Nat} {T : TypeId} {v : Value} {d : DataW H} {p : List MemPlace} (hu : Tryd.prog.underlying T = some (.array n 22)) (cn : Tryd.prog.cellsOf T = n) (hval : Value.okWide Tryd.prog W r b0 T v)
    (h : DataW.Trod enc Tryd.prog W 0 (fun _ => true) true T v d p) : ∃ c : Nat → Nat, v = .agg ((List.range n).map fun j => Value.int .u64 (c j : Nat)).toArray ∧ ∀ j, j < n → c j < 18446744073709551616 := by
  have ci : Tryd.prog.cellsOf 22 = 1 := by kernel_rfl
  obtain ⟨cs, rfl, hsz⟩ := okWide_arr hu hval
  rw [cn] at hsz
  obtain ⟨fuel, hf⟩ := h
  obtain ⟨xs, m, _, _, _, hxl, hx⟩ := DataW.trod_array hu hf
  rw [ci] at hx
  have key : ∀ i, i < n → ∃ k : Nat, cs[i]? = some (.int .u64 (k : Nat)) ∧ k < 18446744073709551616 := by
    intro i hi
    have h2 := hx i hi
    rw [List.getElem?_eq_getElem (by omega)] at h2
    obtain ⟨n0, e0, _, hw⟩ := DataW.trod_int Tryd.underlying22 h2
    obtain ⟨b1, b2⟩ := wf_u64 hw
    refine ⟨n0.toNat, ?_, by omega⟩
    have g : (Value.agg cs).cells.toList = cs.toList := rfl
    rw [g] at e0
    have := congrArg (·[0]?) e0
    simp [List.getElem?_drop] at this
    rw [this]; congr 2; omega
  obtain ⟨c, hc⟩ : ∃ c : Nat → Nat, ∀ i, i < n → cs[i]? = some (.int .u64 (c i : Nat)) ∧ c i < 18446744073709551616 := by
    refine ⟨fun i => if h : i < n then Classical.choose (key i h) else 0, fun i hi => ?_⟩
    simp only [hi, dif_pos]
    exact Classical.choose_spec (key i hi)
  refine ⟨c, ?_, fun j hj => (hc j hj).2⟩
  congr 1
  apply Array.ext'
  apply List.ext_getElem?
  intro j
  by_cases hj : j < n
  · have := (hc j hj).1
    simp [hj]
    simpa using this
  · rw [List.getElem?_eq_none (by simpa using (by omega : cs.size ≤ j)), List.getElem?_eq_none (by simpa using hj)]
theorem laid_outc : laidOutB Tryd.prog = true := by kernel_rfl
end Go.Proofs.YtgkgkiheoadbfaaDoor
namespace Go.Proofs.YtgkgkiheoadbfaaDoor
set_option maxRecDepth 20000
open Go.ChangeShapes Go.WideShapes Go.ChangeAt Go.RowKit

theorem record_of_trod {H : Type} {enc : TypeId × Value → H} {W : World} {r : Reach} {b0 : Nat} {v : Value} {d : DataW H} {p : List MemPlace} (hval : Value.okWide Tryd.prog W r b0 24 v)
    (h : DataW.Trod enc Tryd.prog W 0 (fun _ => true) true 24 v d p) : ∃ c : Nat → Nat, v = .agg (Tab.rl c).toArray ∧ ∀ j, j < 32 → c j < 18446744073709551616 :=
  warr_of_trod (n := 32) (by kernel_rfl) (by kernel_rfl) hval h
theorem record_stay {H : Type} {enc : TypeId × Value → H} {W W' : World} {sp : Nat → Bool} {v : Value} {d : DataW H} {p : List MemPlace}
    (h : DataW.Trod enc Tryd.prog W 0 (fun _ => true) true 24 v d p) (hb : Below W.heap.size W W') (hlt : ∀ x ∈ p, x.block < W.heap.size) (hs : ∀ x ∈ p, sp x.block = true) :
    DataW.Trod enc Tryd.prog W' 0 sp true 24 v d p :=
  WideElems.Trod_stays laid_outc (by kernel_rfl) (of_decide_eq_true (by kernel_rfl)) h (fun x hx => hb.same (hlt x hx)) hs
end Go.Proofs.YtgkgkiheoadbfaaDoor
