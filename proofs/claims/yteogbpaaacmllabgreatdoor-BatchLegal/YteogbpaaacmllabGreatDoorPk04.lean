/- Texts laid together: Package op's Fits, Answer and Told, by their contracts; Package record: Answer, by its contract; Package batch: Open, by its contracts; Package record: Kind, Object, by their contracts; Package record: answersRight, by its contract; Package record: numbersRight, by its contract; Package record: restRight, by its contract; Package record: Right, by its contract; Package object: Do, where it refuses; Package object: what is done, by kinds: a map of functions; What is done, by kinds, from world to world. -/
import Derived.Test.YteogbpaaacmllabGreatDoorPk03
import Derived.Test.YteogbpaaacmllabGreatDoorPk00
import Derived.Test.YteogbpaaacmllabGreatDoorPk01
import Derived.Deep.DeepCutAuto
import Derived.Deep.RegionHeld3
import Derived.Test.YteogbpaaacmllabGreatDoorPk02
import Derived.Maps.Own
namespace Go.Proofs.YteogbpaaacmllabGreatDoor.Tab
set_option maxRecDepth 20000
open Go.RowKit
set_option linter.unusedVariables false

theorem ret_pair' {k : IntKind} {a b : Int} {v : Value} (h : a = b) : Ending.returned (.tuple #[.int k a, v]) = .returned (.tuple #[.int k b, v]) := by rw [h]
theorem and_mask (y m : Nat) (hy : y < 18446744073709551616) (hm : m ≤ 32) : bits .and .u64 (y : Int) ((2 ^ m - 1 : Nat) : Int) = ((y % 2 ^ m : Nat) : Int) := by
  have : 2 ^ m - 1 < 18446744073709551616 := by
    have : 2 ^ m ≤ 2 ^ 32 := Nat.pow_le_pow_right (by decide) hm
    omega
  rw [u64_and_nat _ _ hy this, Nat.and_two_pow_sub_one_eq_mod]
theorem of_val (x : Nat) (hx : x < 18446744073709551616) : wrap64 (bits .and .u64 (x : Int) 4294967295) = ((x % 4294967296 : Nat) : Int) := by
  have := and_mask x 32 hx (by decide)
  rw [show (4294967295 : Int) = ((2 ^ 32 - 1 : Nat) : Int) from rfl, this, IntWalk.wrap64_in _ (by omega)]
theorem opFits_is {c v : Int} (h : Ft c v) (w : World) :
    Calls Tryz.prog 51 #[.agg #[.int .i64 c, .int .i64 v]] w fun e w' => e = .returned (.bool true) ∧ w' = w.alloc (.cells #[.int .i64 c, .int .i64 v] 44) := by
  obtain ⟨h1, h2, h3, h4, h5⟩ := h
  by_cases hc : c = 1
  · subst hc
    clear h5
    go_enter Tryz.func51, Tryz.ntmps51
    go_wp2_with (go_at_call 44; refine (within_yes _ _ _ _ (by omega) (by omega)).mono ?_; rintro e w' ⟨rfl, rfl⟩)
    go_ret
    exact ⟨rfl, rfl⟩
  · obtain rfl : v = 0 := by omega
    clear h5
    go_enter Tryz.func51, Tryz.ntmps51
    go_wp2_with (go_at_call 44; refine (within_yes _ _ _ _ (by omega) (by omega)).mono ?_; rintro e w' ⟨rfl, rfl⟩)
    go_ret
    exact ⟨rfl, rfl⟩



theorem opFits_isnt {c v : Int} (h : ¬ Ft c v) (w : World) :
    Calls Tryz.prog 51 #[.agg #[.int .i64 c, .int .i64 v]] w fun e w' => e = .returned (.bool false) ∧ w' = w.alloc (.cells #[.int .i64 c, .int .i64 v] 44) := by
  rcases not_ft' h with ⟨rfl, hv⟩ | ⟨hc, h1⟩ | ⟨hc, ⟨h1, h2⟩, hv⟩
  · clear h
    go_enter Tryz.func51, Tryz.ntmps51
    go_wp2_with (go_at_call 44; refine (within_no _ _ _ _ hv).mono ?_; rintro e w' ⟨rfl, rfl⟩)
    go_ret
    exact ⟨rfl, rfl⟩
  · clear h
    go_enter Tryz.func51, Tryz.ntmps51
    go_wp2_with (go_at_call 44; refine (within_no _ _ _ _ h1).mono ?_; rintro e w' ⟨rfl, rfl⟩)
    go_ret
    exact ⟨rfl, rfl⟩
  · clear h
    have hv' : (v == 0) = false := beq_eq_false_iff_ne.2 hv
    go_enter Tryz.func51, Tryz.ntmps51
    go_wp2_with (go_at_call 44; refine (within_yes _ _ _ _ (by omega) (by omega)).mono ?_; rintro e w' ⟨rfl, rfl⟩)
    go_ret
    exact ⟨rfl, rfl⟩

theorem opFits_yes {c v : Int} (h : Ft c v) (w : World) :
    Calls Tryz.prog 51 #[.agg #[.int .i64 c, .int .i64 v]] w fun e w' => e = .returned (.bool true) ∧ Gr w w' :=
  (opFits_is h w).mono fun _ _ ⟨he, hw⟩ => ⟨he, hw ▸ (Gr.refl w).alloc _ _⟩
theorem opFits_no {c v : Int} (h : ¬ Ft c v) (w : World) :
    Calls Tryz.prog 51 #[.agg #[.int .i64 c, .int .i64 v]] w fun e w' => e = .returned (.bool false) ∧ Gr w w' :=
  (opFits_isnt h w).mono fun _ _ ⟨he, hw⟩ => ⟨he, hw ▸ (Gr.refl w).alloc _ _⟩



theorem ans_or (c v : Nat) (h2 : (c : Int) ≤ 5) (h6 : (v : Int) ≤ 4294967295) : bits .or .u64 ((c : Int) * 4294967296) (v : Int) = ((ansN c v : Nat) : Int) := by
  have e1 : (c : Int) * 4294967296 = ((c * 4294967296 : Nat) : Int) := by omega
  have a2 := Nat.two_pow_add_eq_or_of_lt (i := 32) (b := v) (by omega) c
  have b2 : c * 4294967296 ||| v = ansN c v := by
    rw [Nat.mul_comm c 4294967296]
    refine a2.symm.trans ?_
    unfold ansN; omega
  rw [e1, u64_or_nat _ _ (by omega) (by omega), b2]

theorem told_code (x : Nat) (hx : x < 18446744073709551616) : wrap64 ((x : Int) / 4294967296) = ((x / 4294967296 : Nat) : Int) := by
  rw [IntWalk.wrap64_in _ (by omega)]; omega

theorem Answer_no {c v : Int} (h : ¬ Ft c v) (w : World) :
    Calls Tryz.prog 34 #[.agg #[.int .i64 c, .int .i64 v]] w fun e w' => e = .returned (.tuple #[.int .u64 0, .iface 59 (.int .i64 1)]) ∧ Gr w w' := by
  go_enter Tryz.func34, Tryz.ntmps34
  go_wp2_with (go_at_call 51; refine (opFits_isnt h _).mono ?_; rintro e w' ⟨rfl, rfl⟩)
  go_ret2
  exact ⟨rfl, ((Gr.refl w).alloc _ _).alloc _ _⟩

theorem Answer_yes {c v : Nat} (h : Ft c v) (w : World) :
    Calls Tryz.prog 34 #[.agg #[.int .i64 c, .int .i64 v]] w fun e w' => e = .returned (.tuple #[.int .u64 (ansN c v : Nat), .nilIface]) ∧ Gr w w' := by
  obtain ⟨h1, h2, h3, h4, h5⟩ := id h
  clear h5
  go_enter Tryz.func34, Tryz.ntmps34
  go_wp2_with (go_at_call 51; refine (opFits_is h _).mono ?_; rintro e w' ⟨rfl, rfl⟩)
  go_ret2
  exact ⟨ret_pair' (ans_or c v h2 h4), ((Gr.refl w).alloc _ _).alloc _ _⟩

theorem Told_core (x : Nat) (a b : Int) (w : World) (e0 : wrap64 ((x : Int) / 4294967296) = a) (e2 : wrap64 (bits .and .u64 (x : Int) 4294967295) = b) (h : Ft a b) :
    Calls Tryz.prog 36 #[.int .u64 x] w fun e w' => e = .returned (.tuple #[.agg #[.int .i64 a, .int .i64 b], .nilIface]) ∧ Gr w w' := by
  go_enter Tryz.func36, Tryz.ntmps36
  go_wp2_with (go_at_call 51; refine (opFits_is h _).mono ?_; rintro e w' ⟨rfl, rfl⟩)
  exact bodyPost_ret (v := .tuple #[.agg #[.int .i64 a, .int .i64 b], .nilIface]) (by simp [results, Tryz.results36, go_sem]) rfl ⟨rfl, (((Gr.refl w).alloc _ _).alloc _ _).alloc _ _⟩

theorem Told_cono (x : Nat) (a b : Int) (w : World) (e0 : wrap64 ((x : Int) / 4294967296) = a) (e2 : wrap64 (bits .and .u64 (x : Int) 4294967295) = b) (h : ¬ Ft a b) :
    Calls Tryz.prog 36 #[.int .u64 x] w fun e w' => e = .returned (.tuple #[.agg #[.int .i64 0, .int .i64 0], .iface 59 (.int .i64 3)]) ∧ Gr w w' := by
  go_enter Tryz.func36, Tryz.ntmps36
  go_wp2_with (go_at_call 51; refine (opFits_isnt h _).mono ?_; rintro e w' ⟨rfl, rfl⟩)
  exact bodyPost_ret (v := .tuple #[.agg #[.int .i64 0, .int .i64 0], .iface 59 (.int .i64 3)]) (by simp [results, Tryz.results36, go_sem]) rfl ⟨rfl, (((Gr.refl w).alloc _ _).alloc _ _).alloc _ _⟩

theorem Told_yes {c v : Nat} (h : Ft c v) (w : World) :
    Calls Tryz.prog 36 #[.int .u64 (ansN c v : Nat)] w fun e w' => e = .returned (.tuple #[.agg #[.int .i64 c, .int .i64 v], .nilIface]) ∧ Gr w w' := by
  obtain ⟨p1, p2⟩ := ansN_parts h
  have hx := ansN_lt h
  exact Told_core _ _ _ w (by rw [told_code _ hx, p1]) (by rw [of_val _ hx, p2]) h

/-- No answer is this word. -/
def NoAns (x : Nat) : Prop := ¬ Ft ((x / 4294967296 : Nat) : Int) ((x % 4294967296 : Nat) : Int)

theorem Told_no (x : Nat) (hx : x < 18446744073709551616) (h : NoAns x) (w : World) :
    Calls Tryz.prog 36 #[.int .u64 (x : Nat)] w fun e w' => e = .returned (.tuple #[.agg #[.int .i64 0, .int .i64 0], .iface 59 (.int .i64 3)]) ∧ Gr w w' :=
  Told_cono x _ _ w (told_code x hx) (of_val x hx) h

theorem ans_cases (x : Nat) : NoAns x ∨ ∃ c v : Nat, Ft c v ∧ x = ansN c v := by
  by_cases h : Ft ((x / 4294967296 : Nat) : Int) ((x % 4294967296 : Nat) : Int)
  · exact Or.inr ⟨_, _, h, (ansN_of x).symm⟩
  · exact Or.inl h


theorem aw_iff (x : Nat) : Aw x ↔ ¬ NoAns x := by unfold NoAns; exact (Classical.not_not).symm
/-- Told, of any word. -/
theorem told_yes {x : Nat} (hx : x < 18446744073709551616) (h : Aw x) (w : World) :
    Calls Tryz.prog 36 #[.int .u64 (x : Nat)] w fun e w' => e = .returned (.tuple #[.agg #[.int .i64 (x / 4294967296 : Nat), .int .i64 (x % 4294967296 : Nat)], .nilIface]) ∧ Below w.heap.size w w' :=
  (Told_core x _ _ w (told_code x hx) (of_val x hx) h).mono fun _ _ ⟨he, hg⟩ => ⟨he, hg.below⟩
theorem told_no {x : Nat} (hx : x < 18446744073709551616) (h : ¬ Aw x) (w : World) :
    Calls Tryz.prog 36 #[.int .u64 (x : Nat)] w fun e w' => e = .returned (.tuple #[.agg #[.int .i64 0, .int .i64 0], .iface 59 (.int .i64 3)]) ∧ Below w.heap.size w w' :=
  (Told_cono x _ _ w (told_code x hx) (of_val x hx) h).mono fun _ _ ⟨he, hg⟩ => ⟨he, hg.below⟩
theorem answer_yes {c v : Nat} (h : Ft c v) (w : World) :
    Calls Tryz.prog 34 #[.agg #[.int .i64 c, .int .i64 v]] w fun e w' => e = .returned (.tuple #[.int .u64 (ansN c v : Nat), .nilIface]) ∧ Below w.heap.size w w' :=
  (Answer_yes h w).mono fun _ _ ⟨he, hg⟩ => ⟨he, hg.below⟩
end Go.Proofs.YteogbpaaacmllabGreatDoor.Tab
namespace Go.Proofs.YteogbpaaacmllabGreatDoor.Tab
set_option maxRecDepth 20000
open Go.RowKit
set_option linter.unusedVariables false

theorem res1ss {P : Program} {fn : Func} {p q r : Tmp} {ty : TypeId} {tmps : Array Value} {w : World} {b : Nat} {cs : List Value} (h : fn.results = #[.cell p ty, .tmp q, .tmp r]) (hB : Bo w b cs) (r1 : Rw P ty cs) (v u : Value) (hp : tmps.getD p undef = .pointer (some ⟨b, 0, none⟩) := by rfl) (hq : tmps.getD q undef = v := by rfl) (hr : tmps.getD r undef = u := by rfl) :
    (results fn tmps).run P w = .ok (.tuple #[.agg cs.toArray, v, u]) w := by
  obtain ⟨d, h1, h2⟩ := r1.lay
  have hp' : tmps[p]?.getD undef = .pointer (some ⟨b, 0, none⟩) := by simpa using hp
  have hq' : tmps[q]?.getD undef = v := by simpa using hq
  have hr' : tmps[r]?.getD undef = u := by simpa using hr
  simp [results, h, hp', hq', hr', asAddr, run_loadVar_mid w b 0 ty cs d hB.range h1 h2 r1.size]
set_option maxHeartbeats 2000000 in
theorem recAnswer_no (r : Nat → Nat) {t : Int} (h : t < 0 ∨ 4 ≤ t) (w : World) :
    Calls Tryz.prog 17 #[.agg (rl r).toArray, .int .i64 t] w (fun e w' => e = .returned (.tuple #[.agg #[.int .i64 0, .int .i64 0], .int .i64 0, .iface 59 (.int .i64 2)]) ∧ Below w.heap.size w w') := by
  have IT : Hid (∀ w : World, _) := isThread_no h
  clear h
  have hM : Hid _ := (((Ms.nil w).born (rl r) 27 (b := w.heap.size) rfl).born [.int .i64 0, .int .i64 0] 44 (b := w.heap.size + 1) (by simp))
  go_enter Tryz.func17, Tryz.ntmps17
  go_wp2_with fail
  refine (IT.out _).mono ?_
  rintro e ux ⟨rfl, hw⟩
  rw [hw]; clear hw ux
  go_wp2_with (first
    | (refine sR rfl (hM.out.at 0 rfl) rfl ((rwA 0 0).len (rwA 0 0)) (rwA 0 0) ?_
       replace hM := hid (hM.out.put 0 rfl [.int .i64 0, .int .i64 0] ((rwA 0 0).len (rwA 0 0)))
       generalize World.setCells _ _ _ _ = W at hM ⊢))
  exact bodyPost_ret (res1ss Tryz.results17 (hM.out.at 0 rfl) (rwA 0 0) (.int .i64 0) (.iface 59 (.int .i64 2))) rfl ⟨rfl, hM.out.below⟩
set_option maxHeartbeats 2000000 in
theorem recAnswer_none {r : Nat → Nat} (U : ∀ j, j < 32 → r j < 18446744073709551616) {i : Nat} (hi : i < 4) (ha : ¬ Aw (r (18 + i))) (w : World) :
    Calls Tryz.prog 17 #[.agg (rl r).toArray, .int .i64 (i : Nat)] w (fun e w' => e = .returned (.tuple #[.agg #[.int .i64 0, .int .i64 0], .int .i64 0, .iface 59 (.int .i64 8)]) ∧ Below w.heap.size w w') := by
  have IT : Hid (∀ w : World, _) := isThread_yes (t := (i : Nat)) (by omega) (by omega)
  have TO : Hid (∀ w : World, _) := fun w => told_no (U (18 + i) (by omega)) ha w
  have fa0 : (0 : Int) ≤ 18 + (i : Int) := by omega
  have fa1 : 18 + (i : Int) < 32 := by omega
  have fa2 : IntKind.i64.wrap (18 + (i : Int)) = 18 + i := by rw [IntKind.wrap_i64]; omega
  have fa3 : wrap64 (18 + (i : Int)) = 18 + i := by unfold wrap64; omega
  have fa4 : (18 + (i : Int)).toNat = 18 + i := by omega
  have fb0 : (0 : Int) ≤ 22 + (i : Int) := by omega
  have fb1 : 22 + (i : Int) < 32 := by omega
  have fb2 : IntKind.i64.wrap (22 + (i : Int)) = 22 + i := by rw [IntKind.wrap_i64]; omega
  have fb3 : wrap64 (22 + (i : Int)) = 22 + i := by unfold wrap64; omega
  have fb4 : (22 + (i : Int)).toNat = 22 + i := by omega
  have hx1 : 18 + i < 32 := by omega
  have hx2 : 22 + i < 32 := by omega
  obtain ⟨x, hx⟩ : ∃ x, r (18 + i) = x := ⟨_, rfl⟩
  have HX : Hid _ := hx
  rw [hx] at TO
  clear hx U ha hi
  have hM : Hid _ := (((Ms.nil w).born (rl r) 27 (b := w.heap.size) rfl).born [.int .i64 0, .int .i64 0] 44 (b := w.heap.size + 1) (by simp))
  have x1 := (hM.out.at 1 rfl).rwordx hx1 HX.out
  go_enter Tryz.func17, Tryz.ntmps17
  go_wp2_with fail
  refine (IT.out _).mono ?_
  rintro e ux ⟨rfl, hw⟩
  rw [hw]; clear hw ux
  go_wp2_with fail
  clear x1
  generalize World.alloc _ _ = W at hM ⊢
  generalize hsz : w.heap.size = n at hM ⊢
  clear hsz
  refine (TO.out _).mono ?_
  rintro e W ⟨rfl, hb⟩
  replace hM := hid (hM.out.later hb)
  clear hb
  obtain ⟨bq0, hq0⟩ : ∃ q, q = W.heap.size := ⟨_, rfl⟩
  replace hM := hid (hM.out.born [.int .i64 0, .int .i64 0] 44 hq0)
  have HQ : Hid _ := hq0
  clear hq0
  go_wp2_with (first
    | (rw [← HQ.out]; refine sR rfl (hM.out.at 0 rfl) rfl ((rwA 0 0).len (rwA _ _)) (rwA _ _) ?_
       replace hM := hid (hM.out.put 0 rfl [.int .i64 0, .int .i64 0] ((rwA 0 0).len (rwA _ _)))
       generalize World.setCells _ _ _ _ = W at hM ⊢)
    | (refine sR rfl (hM.out.at 1 rfl) rfl ((rwA 0 0).len (rwA 0 0)) (rwA 0 0) ?_
       replace hM := hid (hM.out.put 1 rfl [.int .i64 0, .int .i64 0] ((rwA 0 0).len (rwA 0 0)))
       generalize World.setCells _ _ _ _ = W at hM ⊢))
  exact bodyPost_ret (res1ss Tryz.results17 (hM.out.at 1 rfl) (rwA 0 0) (.int .i64 0) (.iface 59 (.int .i64 8))) rfl ⟨rfl, hM.out.below⟩
set_option maxHeartbeats 2000000 in
theorem recAnswer_yes {r : Nat → Nat} (U : ∀ j, j < 32 → r j < 18446744073709551616) {i : Nat} (hi : i < 4) (ha : Aw (r (18 + i))) (w : World) :
    Calls Tryz.prog 17 #[.agg (rl r).toArray, .int .i64 (i : Nat)] w (fun e w' => e = .returned (.tuple #[.agg #[.int .i64 (r (18 + i) / 4294967296 : Nat), .int .i64 (r (18 + i) % 4294967296 : Nat)], .int .i64 (IntKind.i64.wrap (r (22 + i) : Nat)), .nilIface]) ∧ Below w.heap.size w w') := by
  have IT : Hid (∀ w : World, _) := isThread_yes (t := (i : Nat)) (by omega) (by omega)
  have TO : Hid (∀ w : World, _) := fun w => told_yes (U (18 + i) (by omega)) ha w
  have fa0 : (0 : Int) ≤ 18 + (i : Int) := by omega
  have fa1 : 18 + (i : Int) < 32 := by omega
  have fa2 : IntKind.i64.wrap (18 + (i : Int)) = 18 + i := by rw [IntKind.wrap_i64]; omega
  have fa3 : wrap64 (18 + (i : Int)) = 18 + i := by unfold wrap64; omega
  have fa4 : (18 + (i : Int)).toNat = 18 + i := by omega
  have fb0 : (0 : Int) ≤ 22 + (i : Int) := by omega
  have fb1 : 22 + (i : Int) < 32 := by omega
  have fb2 : IntKind.i64.wrap (22 + (i : Int)) = 22 + i := by rw [IntKind.wrap_i64]; omega
  have fb3 : wrap64 (22 + (i : Int)) = 22 + i := by unfold wrap64; omega
  have fb4 : (22 + (i : Int)).toNat = 22 + i := by omega
  obtain ⟨y, hy⟩ : ∃ y, r (22 + i) = y := ⟨_, rfl⟩
  have hx1 : 18 + i < 32 := by omega
  have hx2 : 22 + i < 32 := by omega
  obtain ⟨x, hx⟩ : ∃ x, r (18 + i) = x := ⟨_, rfl⟩
  have HX : Hid _ := hx
  have HY : Hid _ := hy
  rw [hx] at TO ⊢
  rw [hy]
  clear hx U ha hi hy
  generalize x / 4294967296 = xa at *
  generalize x % 4294967296 = xb at *
  have hM : Hid _ := (((Ms.nil w).born (rl r) 27 (b := w.heap.size) rfl).born [.int .i64 0, .int .i64 0] 44 (b := w.heap.size + 1) (by simp))
  have x1 := (hM.out.at 1 rfl).rwordx hx1 HX.out
  go_enter Tryz.func17, Tryz.ntmps17
  go_wp2_with fail
  refine (IT.out _).mono ?_
  rintro e ux ⟨rfl, hw⟩
  rw [hw]; clear hw ux
  go_wp2_with fail
  clear x1
  generalize World.alloc _ _ = W at hM ⊢
  generalize hsz : w.heap.size = n at hM ⊢
  clear hsz
  refine (TO.out _).mono ?_
  rintro e W ⟨rfl, hb⟩
  replace hM := hid (hM.out.later hb)
  clear hb
  obtain ⟨bq0, hq0⟩ : ∃ q, q = W.heap.size := ⟨_, rfl⟩
  replace hM := hid (hM.out.born [.int .i64 0, .int .i64 0] 44 hq0)
  have HQ : Hid _ := hq0
  clear hq0
  go_wp2_with (first
    | (rw [← HQ.out]; refine sR rfl (hM.out.at 0 rfl) rfl ((rwA 0 0).len (rwA _ _)) (rwA _ _) ?_
       replace hM := hid (hM.out.put 0 rfl [.int .i64 (xa : Nat), .int .i64 (xb : Nat)] ((rwA 0 0).len (rwA _ _)))
       generalize World.setCells _ _ _ _ = W at hM ⊢))
  replace hM := hid (hM.out.drew)
  refine wp_region_held_drew (S := fun w' => Bo w' n (rl r) ∧ Bo w' bq0 [.int .i64 (xa : Nat), .int .i64 (xb : Nat)]) (by kernel_rfl) ⟨hM.out.at 2 rfl, hM.out.at 0 rfl⟩ (fun hH => ?_)
  generalize World.drew _ = W at hM hH  ⊢
  refine tk 0 rfl hH ?_ (by intro w h; have c0 := h.2.at 0 rfl; have c1 := h.2.at 1 rfl; clear h; go_simp; try with_reducible rfl)
  simp only [Act.put, p1, p2, p3]
  refine tk 1 rfl hH ?_
  simp only [Act.put, p1, p2, p3]
  refine tk 2 rfl hH ?_
  simp only [Act.put, p1, p2, p3]
  refine tk 3 rfl hH ?_
  simp only [Act.put, p1, p2, p3]
  refine tk 4 rfl hH ?_ (by intro w h; have c0 := h.1.rwordx hx2 HY.out; clear h; go_simp; try with_reducible rfl)
  simp only [Act.put, p1, p2, p3]
  refine tk 5 rfl hH ?_
  simp only [Act.put, p1, p2, p3]
  refine rd1 6 rfl (fun K hK => ?_)
  refine stR rfl (hM.out.at 1 rfl) ((rwA 0 0).len (rwA _ _)) (rwA _ _) ?_
  simp only [Act.put]
  replace hM := hid (hM.out.put 1 rfl [.int .i64 (xa : Nat), .int .i64 (xb : Nat)] ((rwA 0 0).len (rwA _ _)))
  refine hK.out _ _ ⟨hM.out.at 2 rfl, hM.out.at 0 rfl⟩ (fun hH => ?_)
  clear hK K
  generalize World.setCells _ _ _ _ = W at hM hH ⊢
  try simp only [Act.put, p1, p2, p3]
  refine tk 7 rfl hH ?_
  simp only [Act.put, p1, p2, p3]
  refine tk 8 rfl hH ?_
  simp only [Act.put, p1, p2, p3]
  refine wpAnyH_done (by kernel_rfl) ?_ _
  go_wp2
  exact bodyPost_ret (res1ss Tryz.results17 (hM.out.at 1 rfl) (rwA _ _) (.int .i64 (IntKind.i64.wrap (y : Nat))) .nilIface) rfl ⟨rfl, hM.out.below⟩
end Go.Proofs.YteogbpaaacmllabGreatDoor.Tab
namespace Go.Proofs.YteogbpaaacmllabGreatDoor.Tab
set_option maxRecDepth 20000
open Go.RowKit
set_option linter.unusedVariables false

set_option maxHeartbeats 2000000 in
theorem open_range (r : Nat → Nat) {t : Int} (h : t < 0 ∨ 4 ≤ t) (g o k x : Int) (w : World) :
    Calls Tryz.prog 43 #[.agg (rl r).toArray, .agg #[.int .i64 t, .int .i64 g, .int .i64 o, .int .i64 k, .int .i64 x]] w (fun e w' => e = .returned (.tuple #[.bool false, .iface 59 (.int .i64 2)]) ∧ Below w.heap.size w w') := by
  by_cases h1 : t < 0
  · clear h
    have hM : Hid _ := (((Ms.nil w).born (rl r) 27 (b := w.heap.size) rfl).born [.int .i64 t, .int .i64 g, .int .i64 o, .int .i64 k, .int .i64 x] 51 (b := w.heap.size + 1) (by simp))
    have c1 := hM.out.cell 0 0 rfl rfl
    have c2 := hM.out.cell 0 1 rfl rfl
    go_enter Tryz.func43, Tryz.ntmps43
    go_wp2
    go_ret2
    exact ⟨rfl, hM.out.below⟩
  · have h2 : t ≥ 4 := by omega
    clear h
    have hM : Hid _ := (((Ms.nil w).born (rl r) 27 (b := w.heap.size) rfl).born [.int .i64 t, .int .i64 g, .int .i64 o, .int .i64 k, .int .i64 x] 51 (b := w.heap.size + 1) (by simp))
    have c1 := hM.out.cell 0 0 rfl rfl
    have c2 := hM.out.cell 0 1 rfl rfl
    go_enter Tryz.func43, Tryz.ntmps43
    go_wp2
    go_ret2
    exact ⟨rfl, hM.out.below⟩
set_option maxHeartbeats 2000000 in
theorem open_arg (r : Nat → Nat) {t : Int} (h0 : 0 ≤ t) (h4 : t < 4) {g : Int} (h : ¬ (g = 0 ∨ g = 1)) (o k x : Int) (w : World) :
    Calls Tryz.prog 43 #[.agg (rl r).toArray, .agg #[.int .i64 t, .int .i64 g, .int .i64 o, .int .i64 k, .int .i64 x]] w (fun e w' => e = .returned (.tuple #[.bool false, .iface 59 (.int .i64 1)]) ∧ Below w.heap.size w w') := by
  have h1 : ¬ t < 0 := by omega
  have h2 : ¬ t ≥ 4 := by omega
  have h3 : (g != 0) = true := bne_iff_ne.2 fun e => h (Or.inl e)
  have h5 : (g != 1) = true := bne_iff_ne.2 fun e => h (Or.inr e)
  clear h h0 h4
  have hM : Hid _ := (((Ms.nil w).born (rl r) 27 (b := w.heap.size) rfl).born [.int .i64 t, .int .i64 g, .int .i64 o, .int .i64 k, .int .i64 x] 51 (b := w.heap.size + 1) (by simp))
  have c1 := hM.out.cell 0 0 rfl rfl
  have c2 := hM.out.cell 0 1 rfl rfl
  go_enter Tryz.func43, Tryz.ntmps43
  go_wp2
  go_ret2
  exact ⟨rfl, hM.out.below⟩
set_option maxHeartbeats 4000000 in
theorem open_yes {r : Nat → Nat} (h26 : r 26 < 18446744073709551616) {t : Nat} (ht : t < 4) {g : Int} (hg : g = 0 ∨ g = 1) (o k x : Int) {v : Bool} (hv : v = false ↔ g = (bt r t : Nat)) (w : World) :
    Calls Tryz.prog 43 #[.agg (rl r).toArray, .agg #[.int .i64 (t : Nat), .int .i64 g, .int .i64 o, .int .i64 k, .int .i64 x]] w (fun e w' => e = .returned (.tuple #[.bool v, .nilIface]) ∧ Below w.heap.size w w') := by
  unfold bt at hv
  have TG : Hid (∀ w : World, _) := toggle_yes r ht h26
  have h1 : ¬ (t : Int) < 0 := by omega
  have h2 : ¬ (t : Int) ≥ 4 := by omega
  clear ht h26
  generalize (r 26).testBit t = b at *
  obtain rfl : v = !(g == ((b.toNat : Nat) : Int)) := by
    rcases hg with rfl | rfl <;> cases b <;> cases v <;> revert hv <;> decide
  clear hv
  rcases hg with rfl | rfl <;> cases b
  · have hM : Hid _ := (((Ms.nil w).born (rl r) 27 (b := w.heap.size) rfl).born [.int .i64 (t : Nat), .int .i64 0, .int .i64 o, .int .i64 k, .int .i64 x] 51 (b := w.heap.size + 1) (by simp))
    have c1 := hM.out.cell 0 0 rfl rfl
    have c2 := hM.out.cell 0 1 rfl rfl
    go_enter Tryz.func43, Tryz.ntmps43
    go_wp2_with fail
    clear c1 c2
    generalize World.alloc _ _ = W at hM ⊢
    generalize hsz : w.heap.size = n at hM ⊢
    clear hsz
    replace hM := hid (hM.out.drew)
    refine wp_region_held_drew (S := fun w' => Bo w' n (rl r) ∧ Bo w' (n + 1) [.int .i64 (t : Nat), .int .i64 0, .int .i64 o, .int .i64 k, .int .i64 x]) (by kernel_rfl) ⟨hM.out.at 1 rfl, hM.out.at 0 rfl⟩ (fun hH => ?_)
    generalize World.drew _ = W at hM hH  ⊢
    refine tk 0 rfl hH ?_
    simp only [Act.put, p1, p2, p3]
    refine tk 1 rfl hH ?_ (by intro w h; have c0 := h.2.cell 1 _ rfl; clear h; go_simp; try with_reducible rfl)
    simp only [Act.put, p1, p2, p3]
    refine tkR 2 rfl hH (fun _ h => h.1) (rwR r) ?_
    simp only [Act.put, p1, p2, p3]
    refine tk 3 rfl hH ?_
    simp only [Act.put, p1, p2, p3]
    refine tk 4 rfl hH ?_ (by intro w h; have c0 := h.2.cell 0 _ rfl; clear h; go_simp; try with_reducible rfl)
    simp only [Act.put, p1, p2, p3]
    refine rd1 5 rfl (fun K hK => ?_)
    go_simp
    refine (TG.out _).mono ?_
    rintro e W ⟨rfl, hb⟩
    replace hM := hid (hM.out.later hb)
    clear hb
    go_wp2_with fail
    refine hK.out _ _ ⟨hM.out.at 1 rfl, hM.out.at 0 rfl⟩ (fun hH => ?_)
    clear hK K
    try simp only [Act.put, p1, p2, p3]
    refine tk 6 rfl hH ?_
    simp only [Act.put, p1, p2, p3]
    refine tk 7 rfl hH ?_
    simp only [Act.put, p1, p2, p3]
    refine tk 8 rfl hH ?_
    simp only [Act.put, p1, p2, p3]
    refine wpAnyH_done (by kernel_rfl) ?_ _
    go_wp2
    go_ret2
    exact ⟨rfl, hM.out.below⟩
  · have hM : Hid _ := (((Ms.nil w).born (rl r) 27 (b := w.heap.size) rfl).born [.int .i64 (t : Nat), .int .i64 0, .int .i64 o, .int .i64 k, .int .i64 x] 51 (b := w.heap.size + 1) (by simp))
    have c1 := hM.out.cell 0 0 rfl rfl
    have c2 := hM.out.cell 0 1 rfl rfl
    go_enter Tryz.func43, Tryz.ntmps43
    go_wp2_with fail
    clear c1 c2
    generalize World.alloc _ _ = W at hM ⊢
    generalize hsz : w.heap.size = n at hM ⊢
    clear hsz
    replace hM := hid (hM.out.drew)
    refine wp_region_held_drew (S := fun w' => Bo w' n (rl r) ∧ Bo w' (n + 1) [.int .i64 (t : Nat), .int .i64 0, .int .i64 o, .int .i64 k, .int .i64 x]) (by kernel_rfl) ⟨hM.out.at 1 rfl, hM.out.at 0 rfl⟩ (fun hH => ?_)
    generalize World.drew _ = W at hM hH  ⊢
    refine tk 0 rfl hH ?_
    simp only [Act.put, p1, p2, p3]
    refine tk 1 rfl hH ?_ (by intro w h; have c0 := h.2.cell 1 _ rfl; clear h; go_simp; try with_reducible rfl)
    simp only [Act.put, p1, p2, p3]
    refine tkR 2 rfl hH (fun _ h => h.1) (rwR r) ?_
    simp only [Act.put, p1, p2, p3]
    refine tk 3 rfl hH ?_
    simp only [Act.put, p1, p2, p3]
    refine tk 4 rfl hH ?_ (by intro w h; have c0 := h.2.cell 0 _ rfl; clear h; go_simp; try with_reducible rfl)
    simp only [Act.put, p1, p2, p3]
    refine rd1 5 rfl (fun K hK => ?_)
    go_simp
    refine (TG.out _).mono ?_
    rintro e W ⟨rfl, hb⟩
    replace hM := hid (hM.out.later hb)
    clear hb
    go_wp2_with fail
    refine hK.out _ _ ⟨hM.out.at 1 rfl, hM.out.at 0 rfl⟩ (fun hH => ?_)
    clear hK K
    try simp only [Act.put, p1, p2, p3]
    refine tk 6 rfl hH ?_
    simp only [Act.put, p1, p2, p3]
    refine tk 7 rfl hH ?_
    simp only [Act.put, p1, p2, p3]
    refine tk 8 rfl hH ?_
    simp only [Act.put, p1, p2, p3]
    refine wpAnyH_done (by kernel_rfl) ?_ _
    go_wp2
    go_ret2
    exact ⟨rfl, hM.out.below⟩
  · have hM : Hid _ := (((Ms.nil w).born (rl r) 27 (b := w.heap.size) rfl).born [.int .i64 (t : Nat), .int .i64 1, .int .i64 o, .int .i64 k, .int .i64 x] 51 (b := w.heap.size + 1) (by simp))
    have c1 := hM.out.cell 0 0 rfl rfl
    have c2 := hM.out.cell 0 1 rfl rfl
    go_enter Tryz.func43, Tryz.ntmps43
    go_wp2_with fail
    clear c1 c2
    generalize World.alloc _ _ = W at hM ⊢
    generalize hsz : w.heap.size = n at hM ⊢
    clear hsz
    replace hM := hid (hM.out.drew)
    refine wp_region_held_drew (S := fun w' => Bo w' n (rl r) ∧ Bo w' (n + 1) [.int .i64 (t : Nat), .int .i64 1, .int .i64 o, .int .i64 k, .int .i64 x]) (by kernel_rfl) ⟨hM.out.at 1 rfl, hM.out.at 0 rfl⟩ (fun hH => ?_)
    generalize World.drew _ = W at hM hH  ⊢
    refine tk 0 rfl hH ?_
    simp only [Act.put, p1, p2, p3]
    refine tk 1 rfl hH ?_ (by intro w h; have c0 := h.2.cell 1 _ rfl; clear h; go_simp; try with_reducible rfl)
    simp only [Act.put, p1, p2, p3]
    refine tkR 2 rfl hH (fun _ h => h.1) (rwR r) ?_
    simp only [Act.put, p1, p2, p3]
    refine tk 3 rfl hH ?_
    simp only [Act.put, p1, p2, p3]
    refine tk 4 rfl hH ?_ (by intro w h; have c0 := h.2.cell 0 _ rfl; clear h; go_simp; try with_reducible rfl)
    simp only [Act.put, p1, p2, p3]
    refine rd1 5 rfl (fun K hK => ?_)
    go_simp
    refine (TG.out _).mono ?_
    rintro e W ⟨rfl, hb⟩
    replace hM := hid (hM.out.later hb)
    clear hb
    go_wp2_with fail
    refine hK.out _ _ ⟨hM.out.at 1 rfl, hM.out.at 0 rfl⟩ (fun hH => ?_)
    clear hK K
    try simp only [Act.put, p1, p2, p3]
    refine tk 6 rfl hH ?_
    simp only [Act.put, p1, p2, p3]
    refine tk 7 rfl hH ?_
    simp only [Act.put, p1, p2, p3]
    refine tk 8 rfl hH ?_
    simp only [Act.put, p1, p2, p3]
    refine wpAnyH_done (by kernel_rfl) ?_ _
    go_wp2
    go_ret2
    exact ⟨rfl, hM.out.below⟩
  · have hM : Hid _ := (((Ms.nil w).born (rl r) 27 (b := w.heap.size) rfl).born [.int .i64 (t : Nat), .int .i64 1, .int .i64 o, .int .i64 k, .int .i64 x] 51 (b := w.heap.size + 1) (by simp))
    have c1 := hM.out.cell 0 0 rfl rfl
    have c2 := hM.out.cell 0 1 rfl rfl
    go_enter Tryz.func43, Tryz.ntmps43
    go_wp2_with fail
    clear c1 c2
    generalize World.alloc _ _ = W at hM ⊢
    generalize hsz : w.heap.size = n at hM ⊢
    clear hsz
    replace hM := hid (hM.out.drew)
    refine wp_region_held_drew (S := fun w' => Bo w' n (rl r) ∧ Bo w' (n + 1) [.int .i64 (t : Nat), .int .i64 1, .int .i64 o, .int .i64 k, .int .i64 x]) (by kernel_rfl) ⟨hM.out.at 1 rfl, hM.out.at 0 rfl⟩ (fun hH => ?_)
    generalize World.drew _ = W at hM hH  ⊢
    refine tk 0 rfl hH ?_
    simp only [Act.put, p1, p2, p3]
    refine tk 1 rfl hH ?_ (by intro w h; have c0 := h.2.cell 1 _ rfl; clear h; go_simp; try with_reducible rfl)
    simp only [Act.put, p1, p2, p3]
    refine tkR 2 rfl hH (fun _ h => h.1) (rwR r) ?_
    simp only [Act.put, p1, p2, p3]
    refine tk 3 rfl hH ?_
    simp only [Act.put, p1, p2, p3]
    refine tk 4 rfl hH ?_ (by intro w h; have c0 := h.2.cell 0 _ rfl; clear h; go_simp; try with_reducible rfl)
    simp only [Act.put, p1, p2, p3]
    refine rd1 5 rfl (fun K hK => ?_)
    go_simp
    refine (TG.out _).mono ?_
    rintro e W ⟨rfl, hb⟩
    replace hM := hid (hM.out.later hb)
    clear hb
    go_wp2_with fail
    refine hK.out _ _ ⟨hM.out.at 1 rfl, hM.out.at 0 rfl⟩ (fun hH => ?_)
    clear hK K
    try simp only [Act.put, p1, p2, p3]
    refine tk 6 rfl hH ?_
    simp only [Act.put, p1, p2, p3]
    refine tk 7 rfl hH ?_
    simp only [Act.put, p1, p2, p3]
    refine tk 8 rfl hH ?_
    simp only [Act.put, p1, p2, p3]
    refine wpAnyH_done (by kernel_rfl) ?_ _
    go_wp2
    go_ret2
    exact ⟨rfl, hM.out.below⟩
end Go.Proofs.YteogbpaaacmllabGreatDoor.Tab
namespace Go.Proofs.YteogbpaaacmllabGreatDoor.Tab
set_option maxRecDepth 20000
open Go.RowKit
set_option linter.unusedVariables false

theorem rwO (o k x : Int) : Rw Tryz.prog 42 [.int .i64 o, .int .i64 k, .int .i64 x] := ⟨⟨_, Tryz.underlying42, rfl⟩, by kernel_rfl, by intro v hv; simp at hv; rcases hv with rfl | rfl | rfl <;> rfl⟩
set_option maxHeartbeats 2000000 in
theorem recKind_is (r : Nat → Nat) {q : Nat} (hq : q = min (r 0) 4294967296) (w : World) :
    Calls Tryz.prog 29 #[.agg (rl r).toArray] w (fun e w' => e = .returned (.int .i64 (q : Nat)) ∧ Below w.heap.size w w') := by
  have e1 : min ((r 0 : Nat) : Int) 4294967296 = (q : Int) := by omega
  have e2 : (if (4294967296 : Int) < ((r 0 : Nat) : Int) then (4294967296 : Int) else ((r 0 : Nat) : Int)) = (q : Int) := by split <;> omega
  have e3 : wrap64 (q : Int) = q := by unfold wrap64; omega
  have hM : Hid _ := ((Ms.nil w).born (rl r) 27 (b := w.heap.size) rfl)
  have x1 := (hM.out.at 0 rfl).rword (show 0 < 32 by decide)
  clear hq
  go_enter Tryz.func29, Tryz.ntmps29
  go_wp2
  go_ret
  exact ⟨ret_int (by omega), hM.out.below⟩
set_option maxHeartbeats 4000000 in
theorem recObject_is (r : Nat → Nat) (w : World) :
    Calls Tryz.prog 13 #[.agg (rl r).toArray] w (fun e w' => e = .returned (.agg (wl (ob r)).toArray) ∧ Below w.heap.size w w') := by
  have hM : Hid _ := ((((Ms.nil w).born (rl r) 27 (b := w.heap.size) rfl).bornR wz_all.symm 37 (b := w.heap.size + 1) (by simp)).bornR wz_all.symm 37 (b := w.heap.size + 2) (by simp))
  go_enter Tryz.func13, Tryz.ntmps13
  go_wp2_with fail
  generalize World.alloc _ _ = W at hM ⊢
  generalize hsz : w.heap.size = n at hM ⊢
  clear hsz
  replace hM := hid (hM.out.drew)
  refine wp_region_held_drew (S := fun w' => Bo w' n (rl r)) (by kernel_rfl) (hM.out.at 2 rfl) (fun hH => ?_)
  generalize World.drew _ = W at hM hH  ⊢
  refine tk 0 rfl hH ?_
  simp only [Act.put, p1, p2, p3]
  refine tk 1 rfl hH ?_
  simp only [Act.put, p1, p2, p3]
  refine rd1 2 rfl (fun K hK => ?_)
  refine cpR rfl Tryz.underlying73 sz_u (vs := wl (ob r)) (dLen := 17) (sLen := 31) (by rw [wl_length]; rfl) ((hM.out.at 2 rfl).objCells) ((hM.out.at 0 rfl).thereL (by rw [wl_length, wl_length])) (wl_one _) ?_
  replace hM := hid (hM.out.put 0 rfl (wl (ob r)) (by rw [wl_length, wl_length]))
  refine hK.out _ _ (hM.out.at 2 rfl) (fun hH => ?_)
  clear hK K
  generalize World.setCells _ _ _ _ = W at hM hH ⊢
  try simp only [Act.put, p1, p2, p3]
  refine wpAnyH_done (by kernel_rfl) ?_ _
  go_wp2_with (first
    | (refine lR rfl (hM.out.at 0 rfl) rfl (rwC (ob r)) ?_)
    | (refine sR rfl (hM.out.at 1 rfl) rfl ((rwC wz).len (rwC (ob r))) (rwC (ob r)) ?_
       replace hM := hid (hM.out.put 1 rfl (wl (ob r)) ((rwC wz).len (rwC (ob r))))
       generalize World.setCells _ _ _ _ = W at hM ⊢))
  exact bodyPost_ret (res1 Tryz.results13 (hM.out.at 1 rfl) (rwC (ob r))) rfl ⟨rfl, hM.out.below⟩
end Go.Proofs.YteogbpaaacmllabGreatDoor.Tab
namespace Go.Proofs.YteogbpaaacmllabGreatDoor.Tab
set_option maxRecDepth 20000
open Go.RowKit
set_option linter.unusedVariables false

set_option maxHeartbeats 4000000 in
theorem answersRight_is {r : Nat → Nat} (U : ∀ j, j < 32 → r j < 18446744073709551616) {v : Bool} (hv : v = true ↔ aR r) (w : World) :
    Calls Tryz.prog 30 #[.agg (rl r).toArray] w (fun e w' => e = .returned (.bool v) ∧ Below w.heap.size w w') := by
  have HV : Hid _ := hv
  have HU : Hid _ := U
  clear hv U
  have hM : Hid _ := ((Ms.nil w).born (rl r) 27 (b := w.heap.size) rfl)
  go_enter Tryz.func30, Tryz.ntmps30
  go_wp2_with fail
  generalize World.alloc _ _ = W at hM ⊢
  generalize hsz : w.heap.size = n at hM ⊢
  clear hsz
  go_loopg [8] 4 (fun gg s8 wt => ∃ i : Nat, i ≤ 4 ∧ 4 - i ≤ gg ∧ s8 = .int .i64 i ∧ Hid (Ms n w wt [(n, rl r)] []) ∧ Hid (∀ t, t < i → aR1 r t))
  case atStart => exact ⟨0, by omega, by omega, rfl, hM, fun t ht => absurd ht (by omega)⟩
  case round =>
    clear hM
    obtain ⟨i, hi, hgg, rfl, hM, A⟩ := hrel
    obtain ⟨W, rfl⟩ : ∃ q, q = wr := ⟨_, rfl⟩
    by_cases hlt : i < 4
    · have fa0 : (0 : Int) ≤ 18 + (i : Int) := by omega
      have fa1 : 18 + (i : Int) < 32 := by omega
      have fa2 : IntKind.i64.wrap (18 + (i : Int)) = 18 + i := by rw [IntKind.wrap_i64]; omega
      have fa3 : wrap64 (18 + (i : Int)) = 18 + i := by unfold wrap64; omega
      have fa4 : (18 + (i : Int)).toNat = 18 + i := by omega
      have fb0 : (0 : Int) ≤ 22 + (i : Int) := by omega
      have fb1 : 22 + (i : Int) < 32 := by omega
      have fb2 : IntKind.i64.wrap (22 + (i : Int)) = 22 + i := by rw [IntKind.wrap_i64]; omega
      have fb3 : wrap64 (22 + (i : Int)) = 22 + i := by unfold wrap64; omega
      have fb4 : (22 + (i : Int)).toNat = 22 + i := by omega
      have hi1 : (i : Int) < 4 := by omega
      obtain ⟨x, hx⟩ : ∃ x, r (18 + i) = x := ⟨_, rfl⟩
      obtain ⟨y, hy⟩ : ∃ y, r (22 + i) = y := ⟨_, rfl⟩
      have HX : Hid _ := hx
      have HY : Hid _ := hy
      have x64 : x < 18446744073709551616 := hx ▸ HU.out _ (by omega)
      clear hx hy
      by_cases hx0 : x = 0
      · subst hx0
        by_cases hy0 : y = 0
        · subst hy0
          have A1 : Hid (aR1 r i) := ⟨by rw [HX.out, HY.out], Or.inl HX.out⟩
          go_wp2_with fail
          replace hM := hid (hM.out.drew)
          refine wp_region_held_drew (S := fun w' => Bo w' n (rl r)) (by kernel_rfl) (hM.out.at 0 rfl) (fun hH => ?_)
          generalize World.drew _ = W at hM hH  ⊢
          refine tk 0 rfl hH ?_
          simp only [Act.put, p1, p2, p3]
          refine tk 1 rfl hH ?_
          simp only [Act.put, p1, p2, p3]
          refine tk 2 rfl hH ?_
          simp only [Act.put, p1, p2, p3]
          refine tk 3 rfl hH ?_ (by intro w h; have c0 := h.rwordx (show 18 + i < 32 by omega) HX.out; clear h; go_simp; try with_reducible rfl)
          simp only [Act.put, p1, p2, p3]
          refine tk 4 rfl hH ?_
          simp only [Act.put, p1, p2, p3]
          refine tk 5 rfl hH ?_
          simp only [Act.put, p1, p2, p3]
          refine tk 6 rfl hH ?_
          simp only [Act.put, p1, p2, p3]
          refine tk 7 rfl hH ?_ (by intro w h; have c0 := h.rwordx (show 22 + i < 32 by omega) HY.out; clear h; go_simp; try with_reducible rfl)
          simp only [Act.put, p1, p2, p3]
          refine tk 8 rfl hH ?_
          simp only [Act.put, p1, p2, p3]
          refine tk 9 rfl hH ?_
          simp only [Act.put, p1, p2, p3]
          refine wpAnyH_done (by kernel_rfl) ?_ _
          go_wp2_with fail
          refine (told_no (x := 0) (by decide) aw_zero _).mono ?_
          rintro e W ⟨rfl, hb⟩
          replace hM := hid (hM.out.later hb)
          clear hb
          obtain ⟨bq0, hq0⟩ : ∃ q, q = W.heap.size := ⟨_, rfl⟩
          replace hM := hid (hM.out.born [.int .i64 0, .int .i64 0] 44 hq0)
          have HQ : Hid _ := hq0
          clear hq0
          go_wp2_with (first
            | (rw [← HQ.out]; refine sR rfl (hM.out.at 0 rfl) rfl ((rwA 0 0).len (rwA _ _)) (rwA _ _) ?_
               replace hM := hid (hM.out.put 0 rfl [.int .i64 0, .int .i64 0] ((rwA 0 0).len (rwA _ _)))
               generalize World.setCells _ _ _ _ = W at hM ⊢))
          go_roundg (4 - (i + 1))
          case measure => omega
          case rel => exact ⟨i + 1, by omega, by omega, by go_num, hM.out.pick [1], fun t ht => by by_cases e : t = i; (subst e; exact A1.out); exact A.out t (by omega)⟩
        · have fy : ((y : Nat) : Int) ≠ 0 := by omega
          have gy : (((y : Nat) : Int) == 0) = false := by simpa using hy0
          have E : Hid (v = false) := by cases v with | false => rfl | true => exact absurd (HV.out.1 rfl) (fun h => hy0 (by have := (h i hlt).1.1 HX.out; rw [HY.out] at this; exact this))
          go_wp2_with fail
          replace hM := hid (hM.out.drew)
          refine wp_region_held_drew (S := fun w' => Bo w' n (rl r)) (by kernel_rfl) (hM.out.at 0 rfl) (fun hH => ?_)
          generalize World.drew _ = W at hM hH  ⊢
          refine tk 0 rfl hH ?_
          simp only [Act.put, p1, p2, p3]
          refine tk 1 rfl hH ?_
          simp only [Act.put, p1, p2, p3]
          refine tk 2 rfl hH ?_
          simp only [Act.put, p1, p2, p3]
          refine tk 3 rfl hH ?_ (by intro w h; have c0 := h.rwordx (show 18 + i < 32 by omega) HX.out; clear h; go_simp; try with_reducible rfl)
          simp only [Act.put, p1, p2, p3]
          refine tk 4 rfl hH ?_
          simp only [Act.put, p1, p2, p3]
          refine tk 5 rfl hH ?_
          simp only [Act.put, p1, p2, p3]
          refine tk 6 rfl hH ?_
          simp only [Act.put, p1, p2, p3]
          refine tk 7 rfl hH ?_ (by intro w h; have c0 := h.rwordx (show 22 + i < 32 by omega) HY.out; clear h; go_simp; try with_reducible rfl)
          simp only [Act.put, p1, p2, p3]
          refine tk 8 rfl hH ?_
          simp only [Act.put, p1, p2, p3]
          refine tk 9 rfl hH ?_
          simp only [Act.put, p1, p2, p3]
          refine wpAnyH_done (by kernel_rfl) ?_ _
          go_wp2
          go_ret
          exact ⟨ret_bool E.out.symm, hM.out.below⟩
      · have fx : ((x : Nat) : Int) ≠ 0 := by omega
        have gx : (((x : Nat) : Int) == 0) = false := by simpa using hx0
        by_cases hy0 : y = 0
        · subst hy0
          have E : Hid (v = false) := by cases v with | false => rfl | true => exact absurd (HV.out.1 rfl) (fun h => hx0 (by have := (h i hlt).1.2 HY.out; rw [HX.out] at this; exact this))
          go_wp2_with fail
          replace hM := hid (hM.out.drew)
          refine wp_region_held_drew (S := fun w' => Bo w' n (rl r)) (by kernel_rfl) (hM.out.at 0 rfl) (fun hH => ?_)
          generalize World.drew _ = W at hM hH  ⊢
          refine tk 0 rfl hH ?_
          simp only [Act.put, p1, p2, p3]
          refine tk 1 rfl hH ?_
          simp only [Act.put, p1, p2, p3]
          refine tk 2 rfl hH ?_
          simp only [Act.put, p1, p2, p3]
          refine tk 3 rfl hH ?_ (by intro w h; have c0 := h.rwordx (show 18 + i < 32 by omega) HX.out; clear h; go_simp; try with_reducible rfl)
          simp only [Act.put, p1, p2, p3]
          refine tk 4 rfl hH ?_
          simp only [Act.put, p1, p2, p3]
          refine tk 5 rfl hH ?_
          simp only [Act.put, p1, p2, p3]
          refine tk 6 rfl hH ?_
          simp only [Act.put, p1, p2, p3]
          refine tk 7 rfl hH ?_ (by intro w h; have c0 := h.rwordx (show 22 + i < 32 by omega) HY.out; clear h; go_simp; try with_reducible rfl)
          simp only [Act.put, p1, p2, p3]
          refine tk 8 rfl hH ?_
          simp only [Act.put, p1, p2, p3]
          refine tk 9 rfl hH ?_
          simp only [Act.put, p1, p2, p3]
          refine wpAnyH_done (by kernel_rfl) ?_ _
          go_wp2
          go_ret
          exact ⟨ret_bool E.out.symm, hM.out.below⟩
        · have fy : ((y : Nat) : Int) ≠ 0 := by omega
          have gy : (((y : Nat) : Int) == 0) = false := by simpa using hy0
          by_cases ha : Aw x
          · have A1 : Hid (aR1 r i) := ⟨by rw [HX.out, HY.out]; exact ⟨fun h => absurd h hx0, fun h => absurd h hy0⟩, Or.inr (by rw [HX.out]; exact ha)⟩
            have TY : Hid (∀ w : World, _) := fun w => told_yes x64 ha w
            clear ha
            generalize x / 4294967296 = xa at *
            generalize x % 4294967296 = xb at *
            go_wp2_with fail
            replace hM := hid (hM.out.drew)
            refine wp_region_held_drew (S := fun w' => Bo w' n (rl r)) (by kernel_rfl) (hM.out.at 0 rfl) (fun hH => ?_)
            generalize World.drew _ = W at hM hH  ⊢
            refine tk 0 rfl hH ?_
            simp only [Act.put, p1, p2, p3]
            refine tk 1 rfl hH ?_
            simp only [Act.put, p1, p2, p3]
            refine tk 2 rfl hH ?_
            simp only [Act.put, p1, p2, p3]
            refine tk 3 rfl hH ?_ (by intro w h; have c0 := h.rwordx (show 18 + i < 32 by omega) HX.out; clear h; go_simp; try with_reducible rfl)
            simp only [Act.put, p1, p2, p3]
            refine tk 4 rfl hH ?_
            simp only [Act.put, p1, p2, p3]
            refine tk 5 rfl hH ?_
            simp only [Act.put, p1, p2, p3]
            refine tk 6 rfl hH ?_
            simp only [Act.put, p1, p2, p3]
            refine tk 7 rfl hH ?_ (by intro w h; have c0 := h.rwordx (show 22 + i < 32 by omega) HY.out; clear h; go_simp; try with_reducible rfl)
            simp only [Act.put, p1, p2, p3]
            refine tk 8 rfl hH ?_
            simp only [Act.put, p1, p2, p3]
            refine tk 9 rfl hH ?_
            simp only [Act.put, p1, p2, p3]
            refine wpAnyH_done (by kernel_rfl) ?_ _
            go_wp2_with fail
            refine (TY.out _).mono ?_
            rintro e W ⟨rfl, hb⟩
            replace hM := hid (hM.out.later hb)
            clear hb
            obtain ⟨bq0, hq0⟩ : ∃ q, q = W.heap.size := ⟨_, rfl⟩
            replace hM := hid (hM.out.born [.int .i64 0, .int .i64 0] 44 hq0)
            have HQ : Hid _ := hq0
            clear hq0
            go_wp2_with (first
              | (rw [← HQ.out]; refine sR rfl (hM.out.at 0 rfl) rfl ((rwA 0 0).len (rwA _ _)) (rwA _ _) ?_
                 replace hM := hid (hM.out.put 0 rfl [.int .i64 (xa : Nat), .int .i64 (xb : Nat)] ((rwA 0 0).len (rwA _ _)))
                 generalize World.setCells _ _ _ _ = W at hM ⊢))
            go_roundg (4 - (i + 1))
            case measure => omega
            case rel => exact ⟨i + 1, by omega, by omega, by go_num, hM.out.pick [1], fun t ht => by by_cases e : t = i; (subst e; exact A1.out); exact A.out t (by omega)⟩
          · have E : Hid (v = false) := by cases v with | false => rfl | true => exact absurd (HV.out.1 rfl) (fun h => by rcases (h i hlt).2 with e | e <;> rw [HX.out] at e; exact hx0 e; exact ha e)
            have TN : Hid (∀ w : World, _) := fun w => told_no x64 ha w
            clear ha
            go_wp2_with fail
            replace hM := hid (hM.out.drew)
            refine wp_region_held_drew (S := fun w' => Bo w' n (rl r)) (by kernel_rfl) (hM.out.at 0 rfl) (fun hH => ?_)
            generalize World.drew _ = W at hM hH  ⊢
            refine tk 0 rfl hH ?_
            simp only [Act.put, p1, p2, p3]
            refine tk 1 rfl hH ?_
            simp only [Act.put, p1, p2, p3]
            refine tk 2 rfl hH ?_
            simp only [Act.put, p1, p2, p3]
            refine tk 3 rfl hH ?_ (by intro w h; have c0 := h.rwordx (show 18 + i < 32 by omega) HX.out; clear h; go_simp; try with_reducible rfl)
            simp only [Act.put, p1, p2, p3]
            refine tk 4 rfl hH ?_
            simp only [Act.put, p1, p2, p3]
            refine tk 5 rfl hH ?_
            simp only [Act.put, p1, p2, p3]
            refine tk 6 rfl hH ?_
            simp only [Act.put, p1, p2, p3]
            refine tk 7 rfl hH ?_ (by intro w h; have c0 := h.rwordx (show 22 + i < 32 by omega) HY.out; clear h; go_simp; try with_reducible rfl)
            simp only [Act.put, p1, p2, p3]
            refine tk 8 rfl hH ?_
            simp only [Act.put, p1, p2, p3]
            refine tk 9 rfl hH ?_
            simp only [Act.put, p1, p2, p3]
            refine wpAnyH_done (by kernel_rfl) ?_ _
            go_wp2_with fail
            refine (TN.out _).mono ?_
            rintro e W ⟨rfl, hb⟩
            replace hM := hid (hM.out.later hb)
            clear hb
            obtain ⟨bq0, hq0⟩ : ∃ q, q = W.heap.size := ⟨_, rfl⟩
            replace hM := hid (hM.out.born [.int .i64 0, .int .i64 0] 44 hq0)
            have HQ : Hid _ := hq0
            clear hq0
            go_wp2_with (first
              | (rw [← HQ.out]; refine sR rfl (hM.out.at 0 rfl) rfl ((rwA 0 0).len (rwA _ _)) (rwA _ _) ?_
                 replace hM := hid (hM.out.put 0 rfl [.int .i64 0, .int .i64 0] ((rwA 0 0).len (rwA _ _)))
                 generalize World.setCells _ _ _ _ = W at hM ⊢))
            go_ret
            exact ⟨ret_bool E.out.symm, hM.out.below⟩
    · obtain rfl : i = 4 := by omega
      have E : Hid (v = true) := HV.out.2 A.out
      go_wp2
      go_ret
      exact ⟨ret_bool E.out.symm, hM.out.below⟩
end Go.Proofs.YteogbpaaacmllabGreatDoor.Tab
namespace Go.Proofs.YteogbpaaacmllabGreatDoor.Tab
set_option maxRecDepth 20000
open Go.RowKit
set_option linter.unusedVariables false

set_option maxHeartbeats 4000000 in
theorem numbersRight_is {r : Nat → Nat} {v : Bool} (hv : v = true ↔ nR r) (w : World) :
    Calls Tryz.prog 31 #[.agg (rl r).toArray] w (fun e w' => e = .returned (.bool v) ∧ Below w.heap.size w w') := by
  have HV : Hid _ := hv
  clear hv
  have hM : Hid _ := ((Ms.nil w).born (rl r) 27 (b := w.heap.size) rfl)
  go_enter Tryz.func31, Tryz.ntmps31
  go_wp2_with fail
  generalize World.alloc _ _ = W at hM ⊢
  generalize hsz : w.heap.size = n at hM ⊢
  clear hsz
  go_loopg [6] 4 (fun gg s6 wt => wt = W ∧ ∃ i : Nat, i ≤ 4 ∧ 4 - i ≤ gg ∧ s6 = .int .i64 i ∧ Hid (∀ t, t < i → nR1 r t))
  case atStart => exact ⟨rfl, 0, by omega, by omega, rfl, fun t ht => absurd ht (by omega)⟩
  case round =>
    obtain ⟨hw, i, hi, hgg, rfl, A⟩ := hrel
    rw [hw]; clear hw wr
    by_cases hlt : i < 4
    · have hi1 : (i : Int) < 4 := by omega
      have hi0 : (0 : Int) ≤ (i : Int) := by omega
      have fb0 : (0 : Int) ≤ 22 + (i : Int) := by omega
      have fb1 : 22 + (i : Int) < 32 := by omega
      have fb2 : IntKind.i64.wrap (22 + (i : Int)) = 22 + i := by rw [IntKind.wrap_i64]; omega
      have fb3 : wrap64 (22 + (i : Int)) = 22 + i := by unfold wrap64; omega
      have fb4 : (22 + (i : Int)).toNat = 22 + i := by omega
      obtain ⟨x, hx⟩ : ∃ x, r (22 + i) = x := ⟨_, rfl⟩
      obtain ⟨c, hc⟩ : ∃ c, r 28 = c := ⟨_, rfl⟩
      have c1 := (hM.out.at 0 rfl).rwordx (show 22 + i < 32 by omega) hx
      have c2 := (hM.out.at 0 rfl).rwordx (show 28 < 32 by omega) hc
      have HX : Hid _ := hx
      have HC : Hid _ := hc
      clear hx hc
      by_cases hg : c < x
      · have hd : (c : Int) < (x : Int) := by omega
        have E : Hid (v = false) := by cases v with | false => rfl | true => exact absurd (HV.out.1 rfl) (fun h => by have := (h i hlt).1; rw [HX.out, HC.out] at this; omega)
        clear hg
        go_wp2
        go_ret
        exact ⟨ret_bool E.out.symm, hM.out.below⟩
      · have hd : ¬ (c : Int) < (x : Int) := by omega
        have G : Hid (x ≤ c) := (by omega : x ≤ c)
        clear hg
        go_wp2_with fail
        clear fb0 fb1 fb2 fb3 fb4 c1 c2 hd
        obtain ⟨gk0, hgk0⟩ : ∃ gk0, gk0 = gk := ⟨_, rfl⟩
        have GK : Hid (gk = gk0) := hgk0.symm
        go_loopg [18] i (fun gg s18 wt => wt = W ∧ ∃ o : Nat, o ≤ i ∧ i - o ≤ gg ∧ s18 = .int .i64 o ∧ Hid (∀ q, q < o → r (22 + i) = 0 ∨ r (22 + i) ≠ r (22 + q)))
        case atStart => exact ⟨rfl, 0, by omega, by omega, rfl, fun q hq => absurd hq (by omega)⟩
        case round =>
          obtain ⟨hw, o, ho, hgo, rfl, B⟩ := hrel
          rw [hw]; clear hw wr
          by_cases hol : o < i
          · have ho1 : (o : Int) < (i : Int) := by omega
            have ho0 : (0 : Int) ≤ (o : Int) := by omega
            have fc0 : (0 : Int) ≤ 22 + (o : Int) := by omega
            have fc1 : 22 + (o : Int) < 32 := by omega
            have fc2 : IntKind.i64.wrap (22 + (o : Int)) = 22 + o := by rw [IntKind.wrap_i64]; omega
            have fc3 : wrap64 (22 + (o : Int)) = 22 + o := by unfold wrap64; omega
            have fc4 : (22 + (o : Int)).toNat = 22 + o := by omega
            obtain ⟨y, hy⟩ : ∃ y, r (22 + o) = y := ⟨_, rfl⟩
            have c3 := (hM.out.at 0 rfl).rwordx (show 22 + o < 32 by omega) hy
            have HY : Hid _ := hy
            clear hy
            by_cases hx0 : x = 0
            · have gx : (((x : Nat) : Int) == 0) = true := by simp [hx0]
              have fx : ((x : Nat) : Int) = 0 := by omega
              have B1 : Hid (r (22 + i) = 0) := HX.out.trans hx0
              clear hx0
              go_wp2
              go_roundg (i - (o + 1))
              case measure => omega
              case rel => exact ⟨rfl, o + 1, by omega, by omega, by go_num, fun q hq => Or.inl B1.out⟩
            · have gx : (((x : Nat) : Int) == 0) = false := by simpa using hx0
              have fx : ((x : Nat) : Int) ≠ 0 := by omega
              have X0 : Hid (x ≠ 0) := hx0
              clear hx0
              by_cases hxy : x = y
              · have gy : (((x : Nat) : Int) == ((y : Nat) : Int)) = true := by simp [hxy]
                have E : Hid (v = false) := by cases v with | false => rfl | true => exact absurd (HV.out.1 rfl) (fun h => by rcases (h i hlt).2 o hol with e | e <;> rw [HX.out] at e; exact X0.out e; rw [HY.out] at e; exact e hxy)
                clear hxy
                go_wp2
                go_ret
                exact ⟨ret_bool E.out.symm, hM.out.below⟩
              · have gy : (((x : Nat) : Int) == ((y : Nat) : Int)) = false := by simp; omega
                have B1 : Hid (r (22 + i) ≠ r (22 + o)) := by show _ ≠ _; rw [HX.out, HY.out]; exact hxy
                clear hxy
                go_wp2
                go_roundg (i - (o + 1))
                case measure => omega
                case rel => exact ⟨rfl, o + 1, by omega, by omega, by go_num, fun q hq => by by_cases e : q = o; (subst e; exact Or.inr B1.out); exact B.out q (by omega)⟩
          · have ho1 : ¬ (o : Int) < (i : Int) := by omega
            have A1 : Hid (nR1 r i) := ⟨by rw [HX.out, HC.out]; exact G.out, fun q hq => B.out q (by omega)⟩
            go_wp2
            go_roundg (4 - (i + 1))
            case measure => have := GK.out; omega
            case rel => exact ⟨rfl, i + 1, by omega, by have := GK.out; omega, by go_num, fun t ht => by by_cases e : t = i; (subst e; exact A1.out); exact A.out t (by omega)⟩
    · obtain rfl : i = 4 := by omega
      have E : Hid (v = true) := HV.out.2 A.out
      go_wp2
      go_ret
      exact ⟨ret_bool E.out.symm, hM.out.below⟩
end Go.Proofs.YteogbpaaacmllabGreatDoor.Tab
namespace Go.Proofs.YteogbpaaacmllabGreatDoor.Tab
set_option maxRecDepth 20000
open Go.RowKit
set_option linter.unusedVariables false

set_option maxHeartbeats 4000000 in
theorem restRight_is {r : Nat → Nat} {v : Bool} (hv : v = true ↔ zR r ∧ tR r) (w : World) :
    Calls Tryz.prog 32 #[.agg (rl r).toArray] w (fun e w' => e = .returned (.bool v) ∧ Below w.heap.size w w') := by
  have HV : Hid _ := hv
  clear hv
  have hM : Hid _ := ((Ms.nil w).born (rl r) 27 (b := w.heap.size) rfl)
  go_enter Tryz.func32, Tryz.ntmps32
  go_wp2_with fail
  generalize World.alloc _ _ = W at hM ⊢
  generalize hsz : w.heap.size = n at hM ⊢
  clear hsz
  go_loopg [7] 3 (fun gg s7 wt => wt = W ∧ ∃ i : Nat, i ≤ 3 ∧ 3 - i ≤ gg ∧ s7 = .int .i64 i ∧ Hid (∀ j, j < i → r (29 + j) = 0))
  case atStart => exact ⟨rfl, 0, by omega, by omega, rfl, fun t ht => absurd ht (by omega)⟩
  case round =>
    obtain ⟨hw, i, hi, hgg, rfl, A⟩ := hrel
    rw [hw]; clear hw wr
    by_cases hlt : i < 3
    · have hi1 : (i : Int) < 3 := by omega
      have hi0 : (0 : Int) ≤ (i : Int) := by omega
      obtain ⟨x, hx⟩ : ∃ x, r (29 + i) = x := ⟨_, rfl⟩
      have c1 := (hM.out.at 0 rfl).rwordx (show 29 + i < 32 by omega) hx
      have HX : Hid _ := hx
      clear hx
      by_cases hx0 : x = 0
      · have gx : (((x : Nat) : Int) == 0) = true := by simp [hx0]
        have fx : ((x : Nat) : Int) = 0 := by omega
        have A1 : Hid (r (29 + i) = 0) := HX.out.trans hx0
        clear hx0
        go_wp2
        go_roundg (3 - (i + 1))
        case measure => omega
        case rel => exact ⟨rfl, i + 1, by omega, by omega, by go_num, fun j hj => by by_cases e : j = i; (subst e; exact A1.out); exact A.out j (by omega)⟩
      · have gx : (((x : Nat) : Int) == 0) = false := by simpa using hx0
        have fx : ((x : Nat) : Int) ≠ 0 := by omega
        have E : Hid (v = false) := by cases v with | false => rfl | true => exact absurd (HV.out.1 rfl).1 (fun h => hx0 (HX.out.symm.trans (h i hlt)))
        clear hx0
        go_wp2
        go_ret
        exact ⟨ret_bool E.out.symm, hM.out.below⟩
    · obtain rfl : i = 3 := by omega
      obtain ⟨a, ha⟩ : ∃ a, r 26 = a := ⟨_, rfl⟩
      obtain ⟨b, hb⟩ : ∃ b, r 27 = b := ⟨_, rfl⟩
      obtain ⟨c, hc⟩ : ∃ c, r 28 = c := ⟨_, rfl⟩
      have c1 := (hM.out.at 0 rfl).rwordx (show 26 < 32 by omega) ha
      have c2 := (hM.out.at 0 rfl).rwordx (show 27 < 32 by omega) hb
      have c3 := (hM.out.at 0 rfl).rwordx (show 28 < 32 by omega) hc
      have TT : Hid (tR r ↔ a < 16 ∧ b ≤ 1099511627776 ∧ c ≤ 1099511627776) := by unfold tR; rw [ha, hb, hc]; exact Iff.rfl
      clear ha hb hc
      by_cases h1 : a < 16
      · have d1 : (a : Int) < 16 := by omega
        by_cases h2 : b ≤ 1099511627776
        · have d2 : (b : Int) ≤ 1099511627776 := by omega
          by_cases h3 : c ≤ 1099511627776
          · have d3 : (c : Int) ≤ 1099511627776 := by omega
            have E : Hid (v = true) := HV.out.2 ⟨A.out, TT.out.2 ⟨h1, h2, h3⟩⟩
            clear h1 h2 h3
            go_wp2
            go_ret
            exact ⟨ret_bool E.out.symm, hM.out.below⟩
          · have d3 : ¬ (c : Int) ≤ 1099511627776 := by omega
            have E : Hid (v = false) := by cases v with | false => rfl | true => exact absurd (TT.out.1 (HV.out.1 rfl).2).2.2 h3
            clear h1 h2 h3
            go_wp2
            go_ret
            exact ⟨ret_bool E.out.symm, hM.out.below⟩
        · have d2 : ¬ (b : Int) ≤ 1099511627776 := by omega
          have E : Hid (v = false) := by cases v with | false => rfl | true => exact absurd (TT.out.1 (HV.out.1 rfl).2).2.1 h2
          clear h1 h2
          go_wp2
          go_ret
          exact ⟨ret_bool E.out.symm, hM.out.below⟩
      · have d1 : ¬ (a : Int) < 16 := by omega
        have E : Hid (v = false) := by cases v with | false => rfl | true => exact absurd (TT.out.1 (HV.out.1 rfl).2).1 h1
        clear h1
        go_wp2
        go_ret
        exact ⟨ret_bool E.out.symm, hM.out.below⟩
end Go.Proofs.YteogbpaaacmllabGreatDoor.Tab
namespace Go.Proofs.YteogbpaaacmllabGreatDoor.Tab
set_option maxRecDepth 20000
open Go.RowKit
set_option linter.unusedVariables false

theorem bool_of (p : Prop) : ∃ b : Bool, b = true ↔ p := by
  by_cases h : p
  · exact ⟨true, by simp [h]⟩
  · exact ⟨false, by simp [h]⟩
set_option maxHeartbeats 8000000 in
theorem recRight_is {r : Nat → Nat} (U : ∀ j, j < 32 → r j < 18446744073709551616) {v : Bool} (hv : v = true ↔ isRec r) (w : World) :
    Calls Tryz.prog 14 #[.agg (rl r).toArray] w (fun e w' => e = .returned (.bool v) ∧ Below w.heap.size w w') := by
  obtain ⟨q, hq⟩ : ∃ q, q = min (r 0) 4294967296 := ⟨_, rfl⟩
  have eo : isOb (q : Int) (ob r) ↔ isOb (r 0 : Nat) (ob r) := by
    by_cases e : r 0 ≤ 4294967296
    · rw [show q = r 0 by omega]
    · constructor
      · intro h; have := (isOb_kind h).2; omega
      · intro h; have := (isOb_kind h).2; omega
  obtain ⟨bo, hbo⟩ := bool_of (isOb (q : Int) (ob r))
  obtain ⟨ba, hba⟩ := bool_of (aR r)
  obtain ⟨bn, hbn⟩ := bool_of (nR r)
  obtain ⟨bz, hbz⟩ := bool_of (zR r ∧ tR r)
  have KI : Hid (∀ w : World, _) := recKind_is r hq
  have OB : Hid (∀ w : World, _) := recObject_is r
  have RI : Hid (∀ w : World, _) := obRight_is hbo
  have AI : Hid (∀ w : World, _) := answersRight_is U hba
  have NI : Hid (∀ w : World, _) := numbersRight_is hbn
  have ZI : Hid (∀ w : World, _) := restRight_is hbz
  have HV : Hid (v = (bo && (ba && (bn && bz)))) := by
    have h1 : v = true ↔ (bo && (ba && (bn && bz))) = true := by
      rw [hv]; unfold isRec
      simp only [Bool.and_eq_true]
      rw [hbo, hba, hbn, hbz, eo]
    show v = _
    exact Bool.eq_iff_iff.2 h1
  clear hq eo hbo hba hbn hbz hv U
  rcases bo with _ | _
  · have hM : Hid _ := ((Ms.nil w).born (rl r) 27 (b := w.heap.size) rfl)
    go_enter Tryz.func14, Tryz.ntmps14
    go_wp2_with fail
    generalize World.alloc _ _ = W at hM ⊢
    generalize hsz : w.heap.size = n at hM ⊢
    clear hsz
    replace hM := hid (hM.out.drew)
    refine wp_region_held_drew (S := fun w' => Bo w' n (rl r)) (by kernel_rfl) (hM.out.at 0 rfl) (fun hH => ?_)
    generalize World.drew _ = W at hM hH  ⊢
    refine tkR 0 rfl hH (fun _ h => h) (rwR r) ?_
    simp only [Act.put, p1, p2, p3]
    refine tkR 2 rfl hH (fun _ h => h) (rwR r) ?_
    simp only [Act.put, p1, p2, p3]
    refine rd1 1 rfl (fun K hK => ?_)
    go_simp
    refine (KI.out _).mono ?_
    rintro e W ⟨rfl, hb⟩
    replace hM := hid (hM.out.later hb)
    clear hb
    go_wp2_with fail
    refine hK.out _ _ (hM.out.at 0 rfl) (fun hH => ?_)
    clear hK K
    try simp only [Act.put, p1, p2, p3]
    refine rd1 3 rfl (fun K hK => ?_)
    go_simp
    refine (OB.out _).mono ?_
    rintro e W ⟨rfl, hb⟩
    replace hM := hid (hM.out.later hb)
    clear hb
    go_wp2_with fail
    refine hK.out _ _ (hM.out.at 0 rfl) (fun hH => ?_)
    clear hK K
    try simp only [Act.put, p1, p2, p3]
    refine rd1 4 rfl (fun K hK => ?_)
    go_simp
    refine (RI.out _).mono ?_
    rintro e W ⟨rfl, hb⟩
    replace hM := hid (hM.out.later hb)
    clear hb
    go_wp2_with fail
    refine hK.out _ _ (hM.out.at 0 rfl) (fun hH => ?_)
    clear hK K
    try simp only [Act.put, p1, p2, p3]
    refine tk 5 rfl hH ?_
    simp only [Act.put, p1, p2, p3]
    refine tkN 6 rfl hH ?_
    simp only [Act.put, p1, p2, p3]
    refine tkN 7 rfl hH ?_
    simp only [Act.put, p1, p2, p3]
    refine tk 8 rfl hH ?_
    simp only [Act.put, p1, p2, p3]
    refine tk 9 rfl hH ?_
    simp only [Act.put, p1, p2, p3]
    refine tkN 10 rfl hH ?_
    simp only [Act.put, p1, p2, p3]
    refine tkN 11 rfl hH ?_
    simp only [Act.put, p1, p2, p3]
    refine tk 12 rfl hH ?_
    simp only [Act.put, p1, p2, p3]
    refine tk 13 rfl hH ?_
    simp only [Act.put, p1, p2, p3]
    refine tkN 14 rfl hH ?_
    simp only [Act.put, p1, p2, p3]
    refine tkN 15 rfl hH ?_
    simp only [Act.put, p1, p2, p3]
    refine tk 16 rfl hH ?_
    simp only [Act.put, p1, p2, p3]
    refine tk 17 rfl hH ?_
    simp only [Act.put, p1, p2, p3]
    refine wpAnyH_done (by kernel_rfl) ?_ _
    go_wp2
    go_ret
    exact ⟨ret_bool HV.out.symm, hM.out.below⟩
  · rcases ba with _ | _
    · have hM : Hid _ := ((Ms.nil w).born (rl r) 27 (b := w.heap.size) rfl)
      go_enter Tryz.func14, Tryz.ntmps14
      go_wp2_with fail
      generalize World.alloc _ _ = W at hM ⊢
      generalize hsz : w.heap.size = n at hM ⊢
      clear hsz
      replace hM := hid (hM.out.drew)
      refine wp_region_held_drew (S := fun w' => Bo w' n (rl r)) (by kernel_rfl) (hM.out.at 0 rfl) (fun hH => ?_)
      generalize World.drew _ = W at hM hH  ⊢
      refine tkR 0 rfl hH (fun _ h => h) (rwR r) ?_
      simp only [Act.put, p1, p2, p3]
      refine tkR 2 rfl hH (fun _ h => h) (rwR r) ?_
      simp only [Act.put, p1, p2, p3]
      refine rd1 1 rfl (fun K hK => ?_)
      go_simp
      refine (KI.out _).mono ?_
      rintro e W ⟨rfl, hb⟩
      replace hM := hid (hM.out.later hb)
      clear hb
      go_wp2_with fail
      refine hK.out _ _ (hM.out.at 0 rfl) (fun hH => ?_)
      clear hK K
      try simp only [Act.put, p1, p2, p3]
      refine rd1 3 rfl (fun K hK => ?_)
      go_simp
      refine (OB.out _).mono ?_
      rintro e W ⟨rfl, hb⟩
      replace hM := hid (hM.out.later hb)
      clear hb
      go_wp2_with fail
      refine hK.out _ _ (hM.out.at 0 rfl) (fun hH => ?_)
      clear hK K
      try simp only [Act.put, p1, p2, p3]
      refine rd1 4 rfl (fun K hK => ?_)
      go_simp
      refine (RI.out _).mono ?_
      rintro e W ⟨rfl, hb⟩
      replace hM := hid (hM.out.later hb)
      clear hb
      go_wp2_with fail
      refine hK.out _ _ (hM.out.at 0 rfl) (fun hH => ?_)
      clear hK K
      try simp only [Act.put, p1, p2, p3]
      refine tk 5 rfl hH ?_
      simp only [Act.put, p1, p2, p3]
      refine tkR 6 rfl hH (fun _ h => h) (rwR r) ?_
      simp only [Act.put, p1, p2, p3]
      refine rd1 7 rfl (fun K hK => ?_)
      go_simp
      refine (AI.out _).mono ?_
      rintro e W ⟨rfl, hb⟩
      replace hM := hid (hM.out.later hb)
      clear hb
      go_wp2_with fail
      refine hK.out _ _ (hM.out.at 0 rfl) (fun hH => ?_)
      clear hK K
      try simp only [Act.put, p1, p2, p3]
      refine tk 8 rfl hH ?_
      simp only [Act.put, p1, p2, p3]
      refine tk 9 rfl hH ?_
      simp only [Act.put, p1, p2, p3]
      refine tkN 10 rfl hH ?_
      simp only [Act.put, p1, p2, p3]
      refine tkN 11 rfl hH ?_
      simp only [Act.put, p1, p2, p3]
      refine tk 12 rfl hH ?_
      simp only [Act.put, p1, p2, p3]
      refine tk 13 rfl hH ?_
      simp only [Act.put, p1, p2, p3]
      refine tkN 14 rfl hH ?_
      simp only [Act.put, p1, p2, p3]
      refine tkN 15 rfl hH ?_
      simp only [Act.put, p1, p2, p3]
      refine tk 16 rfl hH ?_
      simp only [Act.put, p1, p2, p3]
      refine tk 17 rfl hH ?_
      simp only [Act.put, p1, p2, p3]
      refine wpAnyH_done (by kernel_rfl) ?_ _
      go_wp2
      go_ret
      exact ⟨ret_bool HV.out.symm, hM.out.below⟩
    · rcases bn with _ | _
      · have hM : Hid _ := ((Ms.nil w).born (rl r) 27 (b := w.heap.size) rfl)
        go_enter Tryz.func14, Tryz.ntmps14
        go_wp2_with fail
        generalize World.alloc _ _ = W at hM ⊢
        generalize hsz : w.heap.size = n at hM ⊢
        clear hsz
        replace hM := hid (hM.out.drew)
        refine wp_region_held_drew (S := fun w' => Bo w' n (rl r)) (by kernel_rfl) (hM.out.at 0 rfl) (fun hH => ?_)
        generalize World.drew _ = W at hM hH  ⊢
        refine tkR 0 rfl hH (fun _ h => h) (rwR r) ?_
        simp only [Act.put, p1, p2, p3]
        refine tkR 2 rfl hH (fun _ h => h) (rwR r) ?_
        simp only [Act.put, p1, p2, p3]
        refine rd1 1 rfl (fun K hK => ?_)
        go_simp
        refine (KI.out _).mono ?_
        rintro e W ⟨rfl, hb⟩
        replace hM := hid (hM.out.later hb)
        clear hb
        go_wp2_with fail
        refine hK.out _ _ (hM.out.at 0 rfl) (fun hH => ?_)
        clear hK K
        try simp only [Act.put, p1, p2, p3]
        refine rd1 3 rfl (fun K hK => ?_)
        go_simp
        refine (OB.out _).mono ?_
        rintro e W ⟨rfl, hb⟩
        replace hM := hid (hM.out.later hb)
        clear hb
        go_wp2_with fail
        refine hK.out _ _ (hM.out.at 0 rfl) (fun hH => ?_)
        clear hK K
        try simp only [Act.put, p1, p2, p3]
        refine rd1 4 rfl (fun K hK => ?_)
        go_simp
        refine (RI.out _).mono ?_
        rintro e W ⟨rfl, hb⟩
        replace hM := hid (hM.out.later hb)
        clear hb
        go_wp2_with fail
        refine hK.out _ _ (hM.out.at 0 rfl) (fun hH => ?_)
        clear hK K
        try simp only [Act.put, p1, p2, p3]
        refine tk 5 rfl hH ?_
        simp only [Act.put, p1, p2, p3]
        refine tkR 6 rfl hH (fun _ h => h) (rwR r) ?_
        simp only [Act.put, p1, p2, p3]
        refine rd1 7 rfl (fun K hK => ?_)
        go_simp
        refine (AI.out _).mono ?_
        rintro e W ⟨rfl, hb⟩
        replace hM := hid (hM.out.later hb)
        clear hb
        go_wp2_with fail
        refine hK.out _ _ (hM.out.at 0 rfl) (fun hH => ?_)
        clear hK K
        try simp only [Act.put, p1, p2, p3]
        refine tk 8 rfl hH ?_
        simp only [Act.put, p1, p2, p3]
        refine tk 9 rfl hH ?_
        simp only [Act.put, p1, p2, p3]
        refine tkR 10 rfl hH (fun _ h => h) (rwR r) ?_
        simp only [Act.put, p1, p2, p3]
        refine rd1 11 rfl (fun K hK => ?_)
        go_simp
        refine (NI.out _).mono ?_
        rintro e W ⟨rfl, hb⟩
        replace hM := hid (hM.out.later hb)
        clear hb
        go_wp2_with fail
        refine hK.out _ _ (hM.out.at 0 rfl) (fun hH => ?_)
        clear hK K
        try simp only [Act.put, p1, p2, p3]
        refine tk 12 rfl hH ?_
        simp only [Act.put, p1, p2, p3]
        refine tk 13 rfl hH ?_
        simp only [Act.put, p1, p2, p3]
        refine tkN 14 rfl hH ?_
        simp only [Act.put, p1, p2, p3]
        refine tkN 15 rfl hH ?_
        simp only [Act.put, p1, p2, p3]
        refine tk 16 rfl hH ?_
        simp only [Act.put, p1, p2, p3]
        refine tk 17 rfl hH ?_
        simp only [Act.put, p1, p2, p3]
        refine wpAnyH_done (by kernel_rfl) ?_ _
        go_wp2
        go_ret
        exact ⟨ret_bool HV.out.symm, hM.out.below⟩
      · have hM : Hid _ := ((Ms.nil w).born (rl r) 27 (b := w.heap.size) rfl)
        go_enter Tryz.func14, Tryz.ntmps14
        go_wp2_with fail
        generalize World.alloc _ _ = W at hM ⊢
        generalize hsz : w.heap.size = n at hM ⊢
        clear hsz
        replace hM := hid (hM.out.drew)
        refine wp_region_held_drew (S := fun w' => Bo w' n (rl r)) (by kernel_rfl) (hM.out.at 0 rfl) (fun hH => ?_)
        generalize World.drew _ = W at hM hH  ⊢
        refine tkR 0 rfl hH (fun _ h => h) (rwR r) ?_
        simp only [Act.put, p1, p2, p3]
        refine tkR 2 rfl hH (fun _ h => h) (rwR r) ?_
        simp only [Act.put, p1, p2, p3]
        refine rd1 1 rfl (fun K hK => ?_)
        go_simp
        refine (KI.out _).mono ?_
        rintro e W ⟨rfl, hb⟩
        replace hM := hid (hM.out.later hb)
        clear hb
        go_wp2_with fail
        refine hK.out _ _ (hM.out.at 0 rfl) (fun hH => ?_)
        clear hK K
        try simp only [Act.put, p1, p2, p3]
        refine rd1 3 rfl (fun K hK => ?_)
        go_simp
        refine (OB.out _).mono ?_
        rintro e W ⟨rfl, hb⟩
        replace hM := hid (hM.out.later hb)
        clear hb
        go_wp2_with fail
        refine hK.out _ _ (hM.out.at 0 rfl) (fun hH => ?_)
        clear hK K
        try simp only [Act.put, p1, p2, p3]
        refine rd1 4 rfl (fun K hK => ?_)
        go_simp
        refine (RI.out _).mono ?_
        rintro e W ⟨rfl, hb⟩
        replace hM := hid (hM.out.later hb)
        clear hb
        go_wp2_with fail
        refine hK.out _ _ (hM.out.at 0 rfl) (fun hH => ?_)
        clear hK K
        try simp only [Act.put, p1, p2, p3]
        refine tk 5 rfl hH ?_
        simp only [Act.put, p1, p2, p3]
        refine tkR 6 rfl hH (fun _ h => h) (rwR r) ?_
        simp only [Act.put, p1, p2, p3]
        refine rd1 7 rfl (fun K hK => ?_)
        go_simp
        refine (AI.out _).mono ?_
        rintro e W ⟨rfl, hb⟩
        replace hM := hid (hM.out.later hb)
        clear hb
        go_wp2_with fail
        refine hK.out _ _ (hM.out.at 0 rfl) (fun hH => ?_)
        clear hK K
        try simp only [Act.put, p1, p2, p3]
        refine tk 8 rfl hH ?_
        simp only [Act.put, p1, p2, p3]
        refine tk 9 rfl hH ?_
        simp only [Act.put, p1, p2, p3]
        refine tkR 10 rfl hH (fun _ h => h) (rwR r) ?_
        simp only [Act.put, p1, p2, p3]
        refine rd1 11 rfl (fun K hK => ?_)
        go_simp
        refine (NI.out _).mono ?_
        rintro e W ⟨rfl, hb⟩
        replace hM := hid (hM.out.later hb)
        clear hb
        go_wp2_with fail
        refine hK.out _ _ (hM.out.at 0 rfl) (fun hH => ?_)
        clear hK K
        try simp only [Act.put, p1, p2, p3]
        refine tk 12 rfl hH ?_
        simp only [Act.put, p1, p2, p3]
        refine tk 13 rfl hH ?_
        simp only [Act.put, p1, p2, p3]
        refine tkR 14 rfl hH (fun _ h => h) (rwR r) ?_
        simp only [Act.put, p1, p2, p3]
        refine rd1 15 rfl (fun K hK => ?_)
        go_simp
        refine (ZI.out _).mono ?_
        rintro e W ⟨rfl, hb⟩
        replace hM := hid (hM.out.later hb)
        clear hb
        go_wp2_with fail
        refine hK.out _ _ (hM.out.at 0 rfl) (fun hH => ?_)
        clear hK K
        try simp only [Act.put, p1, p2, p3]
        refine tk 16 rfl hH ?_
        simp only [Act.put, p1, p2, p3]
        refine tk 17 rfl hH ?_
        simp only [Act.put, p1, p2, p3]
        refine wpAnyH_done (by kernel_rfl) ?_ _
        go_wp2
        go_ret
        exact ⟨ret_bool HV.out.symm, hM.out.below⟩
end Go.Proofs.YteogbpaaacmllabGreatDoor.Tab
namespace Go.Proofs.YteogbpaaacmllabGreatDoor.Tab
set_option maxRecDepth 20000
open Go.RowKit
set_option linter.unusedVariables false

/-- What Do hands back: an object, an answer, no error. -/
def DidD (w : World) (d : Nat → Nat) (cc y : Int) (e : Ending) (w' : World) : Prop := e = .returned (.tuple #[.agg (wl d).toArray, .agg #[.int .i64 cc, .int .i64 y], .nilIface]) ∧ Below w.heap.size w w'
def Refd (w : World) (e : Ending) (w' : World) : Prop := e = .returned (.tuple #[.agg (wl wz).toArray, .agg #[.int .i64 0, .int .i64 0], .iface 59 (.int .i64 1)]) ∧ Below w.heap.size w w'
theorem opR_yes {o k v : Int} (h : Rt o k v) (w : World) : Calls Tryz.prog 25 #[.agg #[.int .i64 o, .int .i64 k, .int .i64 v]] w fun e w' => e = .returned (.bool true) ∧ Below w.heap.size w w' :=
  (opRight_is h w).mono fun e w' ⟨he, hw⟩ => ⟨he, hw ▸ new_below w _⟩
theorem opR_no {o k v : Int} (h : ¬ Rt o k v) (w : World) : Calls Tryz.prog 25 #[.agg #[.int .i64 o, .int .i64 k, .int .i64 v]] w fun e w' => e = .returned (.bool false) ∧ Below w.heap.size w w' :=
  (opRight_isnt h w).mono fun e w' ⟨he, hw⟩ => ⟨he, hw ▸ new_below w _⟩
set_option maxHeartbeats 4000000 in
theorem obDo_wrong {kind o k x : Int} {c : Nat → Nat} (hR : ¬ Rt o k x) (w : World) :
    Calls Tryz.prog 26 #[.int .i64 kind, .agg (wl c).toArray, .agg #[.int .i64 o, .int .i64 k, .int .i64 x]] w (Refd w) := by
  have OR : Hid (∀ w : World, _) := fun w => opR_no hR w
  clear hR
  have hM : Hid _ := (((((Ms.nil w).born (wl c) 37 (b := w.heap.size) rfl).born [.int .i64 o, .int .i64 k, .int .i64 x] 42 (b := w.heap.size + 1) (by simp)).bornR wz_all.symm 37 (b := w.heap.size + 2) (by simp)).born [.int .i64 0, .int .i64 0] 44 (b := w.heap.size + 3) (by simp))
  have c1 := hM.out.cell 2 0 rfl rfl
  have c2 := hM.out.cell 2 1 rfl rfl
  have c3 := hM.out.cell 2 2 rfl rfl
  go_enter Tryz.func26, Tryz.ntmps26
  go_wp2_with fail
  clear c1 c2 c3
  generalize World.alloc _ _ = W at hM ⊢
  generalize hsz : w.heap.size = n at hM ⊢
  clear hsz
  refine (OR.out _).mono ?_
  rintro e W ⟨rfl, hb⟩
  replace hM := hid (hM.out.later hb)
  clear hb
  go_wp2_with (first
    | (refine sR rfl (hM.out.at 1 rfl) rfl ((rwC wz).len (rwC wz)) (rwC wz) ?_
       replace hM := hid (hM.out.put 1 rfl (wl wz) ((rwC wz).len (rwC wz)))
       generalize World.setCells _ _ _ _ = W at hM ⊢)
    | (refine sR rfl (hM.out.at 0 rfl) rfl ((rwA 0 0).len (rwA 0 0)) (rwA 0 0) ?_
       replace hM := hid (hM.out.put 0 rfl [.int .i64 0, .int .i64 0] ((rwA 0 0).len (rwA 0 0)))
       generalize World.setCells _ _ _ _ = W at hM ⊢))
  exact bodyPost_ret (res2s Tryz.results26 (hM.out.at 1 rfl) (rwC wz) (hM.out.at 0 rfl) (rwA 0 0) (.iface 59 (.int .i64 1))) rfl ⟨rfl, hM.out.below⟩
set_option maxHeartbeats 4000000 in
theorem obDo_isnt {kind o k x : Int} {c : Nat → Nat} (hR : Rt o k x) (hO : ¬ isOb kind c) (w : World) :
    Calls Tryz.prog 26 #[.int .i64 kind, .agg (wl c).toArray, .agg #[.int .i64 o, .int .i64 k, .int .i64 x]] w (Refd w) := by
  have OR : Hid (∀ w : World, _) := fun w => opR_yes hR w
  have RR : Hid (∀ w : World, _) := fun w => obRight_is (v := false) ⟨fun h => absurd h (by decide), fun h => absurd h hO⟩ w
  clear hR hO
  have hM : Hid _ := (((((Ms.nil w).born (wl c) 37 (b := w.heap.size) rfl).born [.int .i64 o, .int .i64 k, .int .i64 x] 42 (b := w.heap.size + 1) (by simp)).bornR wz_all.symm 37 (b := w.heap.size + 2) (by simp)).born [.int .i64 0, .int .i64 0] 44 (b := w.heap.size + 3) (by simp))
  have c1 := hM.out.cell 2 0 rfl rfl
  have c2 := hM.out.cell 2 1 rfl rfl
  have c3 := hM.out.cell 2 2 rfl rfl
  go_enter Tryz.func26, Tryz.ntmps26
  go_wp2_with fail
  clear c1 c2 c3
  generalize World.alloc _ _ = W at hM ⊢
  generalize hsz : w.heap.size = n at hM ⊢
  clear hsz
  refine (OR.out _).mono ?_
  rintro e W ⟨rfl, hb⟩
  replace hM := hid (hM.out.later hb)
  clear hb
  go_wp2_with (first
    | (refine lW rfl (hM.out.at 3 rfl) rfl (rwC c) ?_))
  refine (RR.out _).mono ?_
  rintro e W ⟨rfl, hb⟩
  replace hM := hid (hM.out.later hb)
  clear hb
  go_wp2_with (first
    | (refine sR rfl (hM.out.at 1 rfl) rfl ((rwC wz).len (rwC wz)) (rwC wz) ?_
       replace hM := hid (hM.out.put 1 rfl (wl wz) ((rwC wz).len (rwC wz)))
       generalize World.setCells _ _ _ _ = W at hM ⊢)
    | (refine sR rfl (hM.out.at 0 rfl) rfl ((rwA 0 0).len (rwA 0 0)) (rwA 0 0) ?_
       replace hM := hid (hM.out.put 0 rfl [.int .i64 0, .int .i64 0] ((rwA 0 0).len (rwA 0 0)))
       generalize World.setCells _ _ _ _ = W at hM ⊢))
  exact bodyPost_ret (res2s Tryz.results26 (hM.out.at 1 rfl) (rwC wz) (hM.out.at 0 rfl) (rwA 0 0) (.iface 59 (.int .i64 1))) rfl ⟨rfl, hM.out.below⟩
end Go.Proofs.YteogbpaaacmllabGreatDoor.Tab
namespace Go.Proofs.YteogbpaaacmllabGreatDoor.Tab
set_option maxRecDepth 20000
open Go.RowKit Go.Maps

def clos (b : Nat) : Value := .func (.func 73) #[] #[.pointer (some ⟨b, 0, none⟩)]
def fv (k : Nat) : Value := .func (.func k) #[] #[]
theorem withList_is (k : Nat) (w : World) : Calls Tryz.prog 58 #[fv k] w fun e w' => e = .returned (clos w.heap.size) ∧ Bo w' w.heap.size [fv k] ∧ Below w.heap.size w w' := by
  unfold fv clos
  go_enter Tryz.func58, Tryz.ntmps58
  go_wp2
  go_ret
  exact ⟨rfl, Bo.born w [.func (.func k) #[] #[]] _ rfl, new_below w _⟩

/-- The map in block m, its elements as they are. -/
def Rv (v : Value) : Option (DataW Value × List MemPlace) := some (.held v, [])
def Mp (w : World) (m n : Nat) (D : DataW Value) : Prop := w.ownsMap Tryz.prog 3 Rv m n D
theorem Mp.later {w w' : World} {m n : Nat} {D : DataW Value} (h : Mp w m n D) (hb : Below w.heap.size w w') : Mp w' m n D := by
  obtain ⟨es, clk, h1, h2⟩ := h
  exact ⟨es, clk, by rw [hb.block m (Array.getElem?_eq_some_iff.1 h1).1]; exact h1, h2⟩
theorem map_desc : Tryz.prog.underlying 98 = some (.map 3 97) := by kernel_rfl
theorem int_desc : Tryz.prog.underlying 3 = some (.int .i64) := by kernel_rfl
theorem zero_deed (w : World) : (zeroValue 97).run Tryz.prog w = .ok .nilFunc w := by kernel_rfl
theorem Mp.add {w : World} {m n : Nat} {D : DataW Value} (h : Mp w m n D) (hn : n ≤ 10) (k : Int) (h0 : 0 ≤ k) (hk : k ≤ 10) (v : Value) :
    ∃ w', (Instr.mapUpdate 98 (.map (some m)) (.int .i64 k) v).run Tryz.prog w = .ok () w' ∧ Mp w' m (n + 1) (D.put (.int .i64 k) (.held v)) ∧ w.grownBy w' (some m) :=
  World.ownsMap.update h (int_keyed int_desc) map_desc (by unfold maxLen; omega) (keyOf_int_mk int_desc (a := k) (WalkArith.wf_i64 (by omega))) rfl
theorem Mp.look {w : World} {m n : Nat} {D : DataW Value} (h : Mp w m n D) (k : Int) (h0 : 0 ≤ k) (hk : k ≤ 10) {v : Value} (hv : D.atKey (.int .i64 k) (.held .nilFunc) = .held v) :
    (Instr.lookup 98 (.map (some m)) (.int .i64 k) false).run Tryz.prog w = .ok v w := by
  obtain ⟨u, ps, h1, h2⟩ := World.ownsMap.lookup h (int_keyed int_desc) map_desc (zero_deed w) (zd := .held .nilFunc) (zp := []) rfl (keyOf_int_mk int_desc (a := k) (WalkArith.wf_i64 (by omega)))
  unfold Rv at h2
  rw [hv] at h2
  injection h2 with h2
  injection h2 with h2 _
  injection h2 with h2
  rw [h1, h2]
theorem Bo.grown {w w' : World} {b : Nat} {cs : List Value} {m : Nat} (h : Bo w b cs) (hg : w.grownBy w' (some m)) (hne : b ≠ m) : Bo w' b cs :=
  h.keep (hg.block b h.lt (fun e => hne (by injection e))) (Nat.lt_of_lt_of_le h.lt hg.size)
theorem Gd.grown {n : Nat} {w a b : World} {m : Nat} (h : Gd n w a) (hg : a.grownBy b (some m)) (hm : n ≤ m) : Gd n w b :=
  ⟨h.1, h.2.grown hg h.2.size (fun k hk => by injection hk with hk; have := h.1; omega)⟩

/-- All deeds, by kinds: each list's function lies in a block of its own. -/
def deedsD (b1 b2 b3 b4 : Nat) : DataW Value :=
  ((((((DataW.map []).put (.int .i64 1) (.held (clos b1))).put (.int .i64 2) (.held (clos b2))).put (.int .i64 3) (.held (clos b3))).put (.int .i64 4) (.held (clos b4))).put (.int .i64 5) (.held (fv 63))).put (.int .i64 6) (.held (fv 64))
theorem deeds_1 (b1 b2 b3 b4 : Nat) : (deedsD b1 b2 b3 b4).atKey (.int .i64 1) (.held .nilFunc) = .held (clos b1) := rfl
theorem deeds_2 (b1 b2 b3 b4 : Nat) : (deedsD b1 b2 b3 b4).atKey (.int .i64 2) (.held .nilFunc) = .held (clos b2) := rfl
theorem deeds_3 (b1 b2 b3 b4 : Nat) : (deedsD b1 b2 b3 b4).atKey (.int .i64 3) (.held .nilFunc) = .held (clos b3) := rfl
theorem deeds_4 (b1 b2 b3 b4 : Nat) : (deedsD b1 b2 b3 b4).atKey (.int .i64 4) (.held .nilFunc) = .held (clos b4) := rfl
theorem deeds_5 (b1 b2 b3 b4 : Nat) : (deedsD b1 b2 b3 b4).atKey (.int .i64 5) (.held .nilFunc) = .held (fv 63) := rfl
theorem deeds_6 (b1 b2 b3 b4 : Nat) : (deedsD b1 b2 b3 b4).atKey (.int .i64 6) (.held .nilFunc) = .held (fv 64) := rfl
structure Deeds (w : World) (m b1 b2 b3 b4 : Nat) : Prop where
  mp : Mp w m 6 (deedsD b1 b2 b3 b4)
  q : Bo w b1 [fv 59]
  s : Bo w b2 [fv 60]
  d : Bo w b3 [fv 61]
  h : Bo w b4 [fv 62]

set_option maxHeartbeats 2000000 in
theorem deeds_is (w : World) : Calls Tryz.prog 45 #[] w fun e w' => e = .returned (.map (some w.heap.size)) ∧ (∃ b1 b2 b3 b4, Deeds w' w.heap.size b1 b2 b3 b4) ∧ Below w.heap.size w w' := by
  have hmm := @run_makeMap Tryz.prog
  have M : Hid (Mp (w.alloc (.map #[] 0)) w.heap.size 0 (.map [])) := World.ownsMap_made _ _ _ _
  have G : Hid (Gd w.heap.size w (w.alloc (.map #[] 0))) := (Gd.refl w).new _
  have l0 : w.heap.size < (w.alloc (.map #[] 0)).heap.size := by simp
  go_enter Tryz.func45, Tryz.ntmps45
  go_wp2_with fail
  generalize w.alloc (.map #[] 0) = W at M G l0 ⊢
  generalize hsz : w.heap.size = n at M G l0 ⊢
  have HSZ : Hid (w.heap.size = n) := hsz
  clear hsz
  refine (withList_is 59 W).mono ?_
  rintro e w1 ⟨rfl, q1, hb⟩
  have q1 : Hid _ := q1
  have G1 : Hid (Gd n w w1) := G.out.later hb
  have l1 : n < w1.heap.size := Nat.lt_of_lt_of_le l0 hb.size
  generalize W.heap.size = b1 at q1 l0 ⊢
  obtain ⟨w2, r1, m2, g2⟩ := Mp.add (Mp.later M.out hb) (by decide) 1 (by decide) (by decide) (clos b1)
  have Q : Hid (Bo w2 b1 [fv 59]) := q1.out.grown g2 (by omega)
  have G2 : Hid (Gd n w w2) := G1.out.grown g2 (Nat.le_refl _)
  have M2 : Hid _ := m2
  have l2 : n < w2.heap.size := Nat.lt_of_lt_of_le l1 g2.size
  have e1 : b1 ≠ n := by omega
  clear hb g2 m2 M G G1 q1 l0 l1
  go_wp2_with fail
  clear r1
  refine (withList_is 60 w2).mono ?_
  rintro e w3 ⟨rfl, q1, hb⟩
  have q1 : Hid _ := q1
  have G1 : Hid (Gd n w w3) := G2.out.later hb
  have Q1 : Hid (Bo w3 b1 [fv 59]) := Q.out.later hb
  have l1 : n < w3.heap.size := Nat.lt_of_lt_of_le l2 hb.size
  have M1 : Hid _ := Mp.later M2.out hb
  generalize w2.heap.size = b2 at q1 l2 ⊢
  obtain ⟨w4, r1, m2, g2⟩ := Mp.add M1.out (by decide) 2 (by decide) (by decide) (clos b2)
  have e2 : b2 ≠ n := by omega
  have S : Hid (Bo w4 b2 [fv 60]) := q1.out.grown g2 e2
  have Q4 : Hid (Bo w4 b1 [fv 59]) := Q1.out.grown g2 e1
  have G4 : Hid (Gd n w w4) := G1.out.grown g2 (Nat.le_refl _)
  have M4 : Hid _ := m2
  have l4 : n < w4.heap.size := Nat.lt_of_lt_of_le l1 g2.size
  clear hb g2 m2 M2 M1 G1 G2 q1 Q Q1 l1 l2
  go_wp2_with fail
  clear r1
  refine (withList_is 61 w4).mono ?_
  rintro e w5 ⟨rfl, q1, hb⟩
  have q1 : Hid _ := q1
  have G1 : Hid (Gd n w w5) := G4.out.later hb
  have Q1 : Hid (Bo w5 b1 [fv 59]) := Q4.out.later hb
  have S1 : Hid (Bo w5 b2 [fv 60]) := S.out.later hb
  have l1 : n < w5.heap.size := Nat.lt_of_lt_of_le l4 hb.size
  have M1 : Hid _ := Mp.later M4.out hb
  generalize w4.heap.size = b3 at q1 l4 ⊢
  obtain ⟨w6, r1, m2, g2⟩ := Mp.add M1.out (by decide) 3 (by decide) (by decide) (clos b3)
  have e3 : b3 ≠ n := by omega
  have D : Hid (Bo w6 b3 [fv 61]) := q1.out.grown g2 e3
  have Q6 : Hid (Bo w6 b1 [fv 59]) := Q1.out.grown g2 e1
  have S6 : Hid (Bo w6 b2 [fv 60]) := S1.out.grown g2 e2
  have G6 : Hid (Gd n w w6) := G1.out.grown g2 (Nat.le_refl _)
  have M6 : Hid _ := m2
  have l6 : n < w6.heap.size := Nat.lt_of_lt_of_le l1 g2.size
  clear hb g2 m2 M4 M1 G1 G4 q1 Q4 Q1 S S1 l1 l4
  go_wp2_with fail
  clear r1
  refine (withList_is 62 w6).mono ?_
  rintro e w7 ⟨rfl, q1, hb⟩
  have q1 : Hid _ := q1
  have G1 : Hid (Gd n w w7) := G6.out.later hb
  have Q1 : Hid (Bo w7 b1 [fv 59]) := Q6.out.later hb
  have S1 : Hid (Bo w7 b2 [fv 60]) := S6.out.later hb
  have D1 : Hid (Bo w7 b3 [fv 61]) := D.out.later hb
  have M1 : Hid _ := Mp.later M6.out hb
  generalize w6.heap.size = b4 at q1 l6 ⊢
  obtain ⟨w8, r1, m2, g2⟩ := Mp.add M1.out (by decide) 4 (by decide) (by decide) (clos b4)
  have e4 : b4 ≠ n := by omega
  have H8 : Hid (Bo w8 b4 [fv 62]) := q1.out.grown g2 e4
  have D8 : Hid (Bo w8 b3 [fv 61]) := D1.out.grown g2 e3
  have Q8 : Hid (Bo w8 b1 [fv 59]) := Q1.out.grown g2 e1
  have S8 : Hid (Bo w8 b2 [fv 60]) := S1.out.grown g2 e2
  have G8 : Hid (Gd n w w8) := G1.out.grown g2 (Nat.le_refl _)
  have M8 : Hid _ := m2
  clear hb g2 m2 M6 M1 G1 G6 q1 Q6 Q1 S6 S1 D D1 l6
  obtain ⟨w9, r2, m9, g9⟩ := Mp.add M8.out (by decide) 5 (by decide) (by decide) (fv 63)
  obtain ⟨wx, r3, mx, gx⟩ := Mp.add m9 (by decide) 6 (by decide) (by decide) (fv 64)
  have FIN : Hid (Deeds wx n b1 b2 b3 b4 ∧ Gd n w wx) := ⟨⟨mx, (Q8.out.grown g9 e1).grown gx e1, (S8.out.grown g9 e2).grown gx e2, (D8.out.grown g9 e3).grown gx e3, (H8.out.grown g9 e4).grown gx e4⟩, (G8.out.grown g9 (Nat.le_refl _)).grown gx (Nat.le_refl _)⟩
  clear m9 g9 mx gx M8 G8 Q8 S8 D8 H8
  unfold fv at r2 r3
  go_wp2
  go_ret
  exact ⟨by rw [HSZ.out]; rfl, by rw [HSZ.out]; exact ⟨b1, b2, b3, b4, FIN.out.1⟩, FIN.out.2.2⟩
end Go.Proofs.YteogbpaaacmllabGreatDoor.Tab
namespace Go.Proofs.YteogbpaaacmllabGreatDoor.Tab
set_option maxRecDepth 20000
open Go.RowKit
theorem Deeds.later {w w' : World} {m b1 b2 b3 b4 : Nat} (h : Deeds w m b1 b2 b3 b4) (hb : Below w.heap.size w w') : Deeds w' m b1 b2 b3 b4 :=
  ⟨h.mp.later hb, h.q.later hb, h.s.later hb, h.d.later hb, h.h.later hb⟩
theorem Deeds.new {w : World} {m b1 b2 b3 b4 : Nat} (h : Deeds w m b1 b2 b3 b4) (o : Obj) : Deeds (w.alloc o) m b1 b2 b3 b4 := h.later (new_below w o)
end Go.Proofs.YteogbpaaacmllabGreatDoor.Tab
