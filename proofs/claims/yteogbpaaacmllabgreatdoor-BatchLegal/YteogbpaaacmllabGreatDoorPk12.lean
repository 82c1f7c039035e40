/- Texts laid together: Words of objects held against each other; The keepers pick, kindOf, put, made of none, judged, by their contracts; The library's Grow of nothing, and its Concat of two rows of deeds, by their contracts; The library's handle of the type error, off the row's condition. -/
import Derived.Test.YteogbpaaacmllabGreatDoorPk01
import Derived.Deep.DeepCutAuto
import Derived.Deep.RegionHeld3
import Derived.ChangeKeysEq
import Derived.Test.YteogbpaaacmllabGreatDoorPk11
import Derived.Test.YteogbpaaacmllabGreatDoorPk07
import Derived.Test.YteogbpaaacmllabGreatDoorPk02
import Derived.Test.YteogbpaaacmllabGreatDoorTie
import Derived.ProofKit
import Derived.LaidMore
import Derived.LaidLaws
import Derived.LaidHandle
import Derived.OpenShut
import Derived.Stop.Joined
namespace Go.Proofs.YteogbpaaacmllabGreatDoor.Tab
set_option maxRecDepth 20000
open Go.RowKit
set_option linter.unusedVariables false

theorem cells_desc : Tryz.prog.underlying 37 = some (.array 17 25) := by kernel_rfl
theorem wpart0 (c : Nat → Nat) (w : World) : (part 25 (wl c).toArray 0).run Tryz.prog w = .ok (.int .u64 (c 0 : Nat)) w := by kernel_rfl
theorem wpart1 (c : Nat → Nat) (w : World) : (part 25 (wl c).toArray 1).run Tryz.prog w = .ok (.int .u64 (c 1 : Nat)) w := by kernel_rfl
theorem wpart2 (c : Nat → Nat) (w : World) : (part 25 (wl c).toArray 2).run Tryz.prog w = .ok (.int .u64 (c 2 : Nat)) w := by kernel_rfl
theorem wpart3 (c : Nat → Nat) (w : World) : (part 25 (wl c).toArray 3).run Tryz.prog w = .ok (.int .u64 (c 3 : Nat)) w := by kernel_rfl
theorem wpart4 (c : Nat → Nat) (w : World) : (part 25 (wl c).toArray 4).run Tryz.prog w = .ok (.int .u64 (c 4 : Nat)) w := by kernel_rfl
theorem wpart5 (c : Nat → Nat) (w : World) : (part 25 (wl c).toArray 5).run Tryz.prog w = .ok (.int .u64 (c 5 : Nat)) w := by kernel_rfl
theorem wpart6 (c : Nat → Nat) (w : World) : (part 25 (wl c).toArray 6).run Tryz.prog w = .ok (.int .u64 (c 6 : Nat)) w := by kernel_rfl
theorem wpart7 (c : Nat → Nat) (w : World) : (part 25 (wl c).toArray 7).run Tryz.prog w = .ok (.int .u64 (c 7 : Nat)) w := by kernel_rfl
theorem wpart8 (c : Nat → Nat) (w : World) : (part 25 (wl c).toArray 8).run Tryz.prog w = .ok (.int .u64 (c 8 : Nat)) w := by kernel_rfl
theorem wpart9 (c : Nat → Nat) (w : World) : (part 25 (wl c).toArray 9).run Tryz.prog w = .ok (.int .u64 (c 9 : Nat)) w := by kernel_rfl
theorem wpart10 (c : Nat → Nat) (w : World) : (part 25 (wl c).toArray 10).run Tryz.prog w = .ok (.int .u64 (c 10 : Nat)) w := by kernel_rfl
theorem wpart11 (c : Nat → Nat) (w : World) : (part 25 (wl c).toArray 11).run Tryz.prog w = .ok (.int .u64 (c 11 : Nat)) w := by kernel_rfl
theorem wpart12 (c : Nat → Nat) (w : World) : (part 25 (wl c).toArray 12).run Tryz.prog w = .ok (.int .u64 (c 12 : Nat)) w := by kernel_rfl
theorem wpart13 (c : Nat → Nat) (w : World) : (part 25 (wl c).toArray 13).run Tryz.prog w = .ok (.int .u64 (c 13 : Nat)) w := by kernel_rfl
theorem wpart14 (c : Nat → Nat) (w : World) : (part 25 (wl c).toArray 14).run Tryz.prog w = .ok (.int .u64 (c 14 : Nat)) w := by kernel_rfl
theorem wpart15 (c : Nat → Nat) (w : World) : (part 25 (wl c).toArray 15).run Tryz.prog w = .ok (.int .u64 (c 15 : Nat)) w := by kernel_rfl
theorem wpart16 (c : Nat → Nat) (w : World) : (part 25 (wl c).toArray 16).run Tryz.prog w = .ok (.int .u64 (c 16 : Nat)) w := by kernel_rfl
theorem word_equal (x : Int) (w : World) : (Op.equalIn 9999 25 (.int .u64 x) (.int .u64 x)).run Tryz.prog w = .ok true w := by
  go_simp
theorem cells_equal (c : Nat → Nat) (w : World) : (Op.equalIn 10000 37 (.agg (wl c).toArray) (.agg (wl c).toArray)).run Tryz.prog w = .ok true w := by
  have hc : Tryz.prog.cellsOf 25 = 1 := by kernel_rfl
  cases hi : Tryz.prog.info? 25 with
  | none => simp [Program.cellsOf, hi] at hc
  | some i =>
    have h := run_equalIn_array (w := w) 9999 (wl c).toArray (wl c).toArray cells_desc hi
    rw [h, hc]
    have hr : List.range 17 = [0, 1, 2, 3, 4, 5, 6, 7, 8, 9, 10, 11, 12, 13, 14, 15, 16] := by decide
    rw [hr]
    simp [Op.eqItems, wpart0 c w, wpart1 c w, wpart2 c w, wpart3 c w, wpart4 c w, wpart5 c w, wpart6 c w, wpart7 c w, wpart8 c w, wpart9 c w, wpart10 c w, wpart11 c w, wpart12 c w, wpart13 c w, wpart14 c w, wpart15 c w, wpart16 c w, word_equal]
theorem cells_zero (w : World) : (Op.equalIn 10000 37 (.agg (wl wz).toArray) (.agg #[.int .u64 0, .int .u64 0, .int .u64 0, .int .u64 0, .int .u64 0, .int .u64 0, .int .u64 0, .int .u64 0, .int .u64 0, .int .u64 0, .int .u64 0, .int .u64 0, .int .u64 0, .int .u64 0, .int .u64 0, .int .u64 0, .int .u64 0])).run Tryz.prog w = .ok true w := cells_equal wz w
theorem afield0 (c y : Int) (w : World) : (Instr.field 44 (.agg #[.int .i64 c, .int .i64 y]) 0).run Tryz.prog w = .ok (.int .i64 c) w := by kernel_rfl
theorem afield1 (c y : Int) (w : World) : (Instr.field 44 (.agg #[.int .i64 c, .int .i64 y]) 1).run Tryz.prog w = .ok (.int .i64 y) w := by kernel_rfl
end Go.Proofs.YteogbpaaacmllabGreatDoor.Tab
namespace Go.Proofs.YteogbpaaacmllabGreatDoor.Tab
set_option maxRecDepth 20000
open Go.RowKit
set_option linter.unusedVariables false

theorem pick_md (a : Int) (n : Nat) (h0 : 0 < n) (h : n < 4611686018427387904) : ∃ r : Nat, r < n ∧ wrap64 ((IntKind.u64.wrap a).tmod (IntKind.u64.wrap n)) = (r : Nat) := by
  rw [IntKind.wrap_u64, IntKind.wrap_u64]
  have e : (n : Int) % 18446744073709551616 = n := by omega
  rw [e, Int.tmod_eq_emod_of_nonneg (by omega)]
  have h1 : 0 ≤ a % 18446744073709551616 % (n : Int) := Int.emod_nonneg _ (by omega)
  have h2 : a % 18446744073709551616 % (n : Int) < n := Int.emod_lt_of_pos _ (by omega)
  refine ⟨(a % 18446744073709551616 % (n : Int)).toNat, by omega, ?_⟩
  generalize a % 18446744073709551616 % (n : Int) = x at *
  unfold wrap64
  omega
theorem pick_any (a : Int) (n : Nat) (h0 : 0 < n) (hn : n ≤ 1000000) : ∃ r : Nat, r < n ∧ ∀ w : World, Calls Tryz.prog 22 #[.int .i64 a, .int .i64 (n : Nat)] w fun e w' => e = .returned (.int .i64 (r : Nat)) ∧ w' = w := by
  obtain ⟨r, hr, he⟩ := pick_md a n h0 (by omega)
  refine ⟨r, hr, fun w => ?_⟩
  have HE : Hid _ := he
  have n0 : ¬ ((n : Int) = 0) := by omega
  have n1 : (0 : Int) < (n : Int) := by omega
  have n2 : IntKind.u64.wrap (n : Int) = (n : Int) := by rw [IntKind.wrap_u64]; omega
  rw [n2] at HE
  clear he h0 hn
  go_enter Tryz.func22, Tryz.ntmps22
  go_wp2
  go_ret
  exact ⟨ret_int HE.out, rfl⟩
theorem kindOf_any (a : Int) : ∃ r : Nat, 1 ≤ r ∧ r ≤ 6 ∧ ∀ w : World, Calls Tryz.prog 7 #[.int .i64 a] w fun e w' => e = .returned (.int .i64 (r : Nat)) ∧ w' = w := by
  obtain ⟨r, hr, hp⟩ := pick_any a 6 (by decide) (by decide)
  refine ⟨r + 1, by omega, by omega, fun w => ?_⟩
  have P : Hid _ := hp
  clear hp
  have hw : IntKind.i64.wrap (1 + (r : Int)) = 1 + (r : Int) := by rw [IntKind.wrap_i64]; omega
  go_enter Tryz.func7, Tryz.ntmps7
  go_wp2_with fail
  refine (P.out _).mono ?_
  rintro e w1 ⟨rfl, rfl⟩
  go_wp2
  go_ret
  refine ⟨?_, rfl⟩
  have e : ((r + 1 : Nat) : Int) = 1 + (r : Int) := by omega
  rw [e, ← hw]
  rfl
theorem kput_is (x : Int) (w : World) : Calls Tryz.prog 15 #[.int .i64 x] w fun e w' => e = .returned (.agg #[.int .i64 1, .int .i64 0, .int .i64 x]) ∧ Below w.heap.size w w' := by
  go_enter Tryz.func15, Tryz.ntmps15
  go_wp2
  exact bodyPost_ret (v := .agg #[.int .i64 1, .int .i64 0, .int .i64 x]) (by simp [results, Tryz.results15, go_sem]) rfl ⟨rfl, (Below.refl _ w).alloc (Nat.le_refl _) _⟩
set_option maxHeartbeats 2000000 in
theorem made0_is  (w : World) :
    Calls Tryz.prog 19 #[.int .i64 1, .slice none 0 0] w (fun e w' => e = .returned (.agg (wl wz).toArray) ∧ Below w.heap.size w w') := by
  have hM : Hid _ := (((Ms.nil w).bornR wz_all.symm 37 (b := w.heap.size) rfl).bornR wz_all.symm 37 (b := w.heap.size + 1) (by simp))
  go_enter Tryz.func19, Tryz.ntmps19
  go_wp2_with fail
  generalize World.alloc _ _ = W at hM ⊢
  generalize hsz : w.heap.size = n at hM ⊢
  clear hsz
  go_loopg [17] 0 (fun gg s17 wt => wt = W ∧ s17 = .int .i64 0)
  case atStart => exact ⟨rfl, rfl⟩
  case round =>
    obtain ⟨hw, rfl⟩ := hrel
    rw [hw]; clear hw wr
    go_wp2_with (first
      | (refine lR rfl (hM.out.at 0 rfl) rfl (rwC wz) ?_)
      | (refine sR rfl (hM.out.at 1 rfl) rfl ((rwC wz).len (rwC wz)) (rwC wz) ?_
         replace hM := hid (hM.out.put 1 rfl (wl wz) ((rwC wz).len (rwC wz)))
         generalize World.setCells _ _ _ _ = W at hM ⊢))
    exact bodyPost_ret (res1 Tryz.results19 (hM.out.at 1 rfl) (rwC wz)) rfl ⟨rfl, hM.out.below⟩
/-- The two deeds, the two events of judged. -/
def qj : Nat → DD := fun j => if j = 0 then ⟨0, 1, 0, 3, 1, 0⟩ else ⟨1, 2, 0, 0, 1, 3⟩
def qk : Nat → DD := fun _ => ⟨1, 2, 0, 0, 1, 3⟩
def hj : Nat → EV := fun j => if j = 0 then ⟨1, 0, 1, 0, 3, 0, 0, 0, 0⟩ else ⟨2, 0, 1, 0, 3, 1, 0, 1, 0⟩
def dj : List Value := [.int .i64 0, .int .i64 1, .int .i64 0, .int .i64 3, .int .i64 1, .int .i64 0, .int .i64 1, .int .i64 2, .int .i64 0, .int .i64 0, .int .i64 1, .int .i64 3]
def ej : List Value := [.int .i64 1, .int .i64 0, .int .i64 1, .int .i64 0, .int .i64 3, .int .i64 0, .int .i64 0, .int .i64 0, .int .i64 0, .int .i64 2, .int .i64 0, .int .i64 1, .int .i64 0, .int .i64 3, .int .i64 1, .int .i64 0, .int .i64 1, .int .i64 0]
theorem Bo.part {w : World} {b : Nat} {cs ds : List Value} (h : Bo w b cs) (o : Nat) (hd : ∀ j v, ds[j]? = some v → cs[o + j]? = some v) : w.rangeAt b o ds := fun j v hv => h.cell (o + j) v (hd j v hv)
theorem get_of {cs ds : List Value} {o : Nat} (h : ∀ j, j < ds.length → cs[o + j]? = ds[j]?) : ∀ j v, ds[j]? = some v → cs[o + j]? = some v := fun j v hv => by rw [h j (List.getElem?_eq_some_iff.1 hv).1]; exact hv
theorem lt6 {P : Nat → Prop} (h0 : P 0) (h1 : P 1) (h2 : P 2) (h3 : P 3) (h4 : P 4) (h5 : P 5) : ∀ j, j < 6 → P j
  | 0, _ => h0 | 1, _ => h1 | 2, _ => h2 | 3, _ => h3 | 4, _ => h4 | 5, _ => h5
  | j + 6, h => by omega
theorem lt9 {P : Nat → Prop} (h0 : P 0) (h1 : P 1) (h2 : P 2) (h3 : P 3) (h4 : P 4) (h5 : P 5) (h6 : P 6) (h7 : P 7) (h8 : P 8) : ∀ j, j < 9 → P j
  | 0, _ => h0 | 1, _ => h1 | 2, _ => h2 | 3, _ => h3 | 4, _ => h4 | 5, _ => h5 | 6, _ => h6 | 7, _ => h7 | 8, _ => h8
  | j + 9, h => by omega
theorem dq2 {w : World} {b : Nat} (h : Bo w b dj) : Dq w (.slice (some ⟨b, 0, none⟩) 2 2) 2 qj := Or.inr ⟨b, 0, 2, rfl, by decide, by decide, by decide, fun i hi => by
  match i, hi with
  | 0, _ => exact h.part _ (get_of (lt6 rfl rfl rfl rfl rfl rfl))
  | 1, _ => exact h.part _ (get_of (lt6 rfl rfl rfl rfl rfl rfl))⟩
theorem dq0 {w : World} {b : Nat} (h : Bo w b dj) : Dq w (.slice (some ⟨b, 0, none⟩) 1 2) 1 qj := Or.inr ⟨b, 0, 2, rfl, by decide, by decide, by decide, fun i hi => by
  match i, hi with
  | 0, _ => exact h.part _ (get_of (lt6 rfl rfl rfl rfl rfl rfl))⟩
theorem dq1 {w : World} {b : Nat} (h : Bo w b dj) : Dq w (.slice (some ⟨b, 6, none⟩) 1 1) 1 qk := Or.inr ⟨b, 6, 1, rfl, by decide, by decide, by decide, fun i hi => by
  match i, hi with
  | 0, _ => exact h.part _ (get_of (lt6 rfl rfl rfl rfl rfl rfl))⟩
theorem ev2 {w : World} {b : Nat} (h : Bo w b ej) : Ev w (.slice (some ⟨b, 0, none⟩) 2 2) 2 hj := Or.inr ⟨b, 0, 2, rfl, by decide, by decide, by decide, fun i hi => by
  match i, hi with
  | 0, _ => exact ⟨h.part _ (get_of (lt9 rfl rfl rfl rfl rfl rfl rfl rfl rfl)), by decide⟩
  | 1, _ => exact ⟨h.part _ (get_of (lt9 rfl rfl rfl rfl rfl rfl rfl rfl rfl)), by decide⟩⟩
theorem ok_j : ∀ j, j < 2 → Ok1 ((1 : Nat) : Int) qj j := fun j hj => by
  match j, hj with
  | 0, _ => exact ⟨⟨by decide, by decide, by decide, by decide, by decide, by decide⟩, by decide, by decide⟩
  | 1, _ => exact ⟨⟨by decide, by decide, by decide, by decide, by decide, by decide⟩, by decide, by decide⟩
theorem oi_j : wl (oi ((1 : Nat) : Int) qj 2) = wl wz := wl_congr (by decide)
theorem bad_k : ¬ Ok1 ((1 : Nat) : Int) qk 0 := fun h => absurd h.2.1 (by decide)
theorem cs_j : callsF hj 2 = some [(0, some 1)] := by decide
theorem an_j : ansF hj qj 1 [(0, some 1)] 1 = .ok [some 0] := rfl
theorem op_j : opnF hj qj [(0, some 1)] [some 0] 1 = .ok ([some 0], []) := rfl
theorem or_j : ordB [(0, some 1)] [some 0] 1 = true := by decide
theorem an_0 : ansF hj qj 0 [(0, some 1)] 1 = .error 7 := rfl
set_option maxHeartbeats 8000000 in
theorem judged_is  (w : World) (hT : HandleAt w) :
    Calls Tryz.prog 6 #[] w (fun e w' => e = .returned (.bool true) ∧ Below w.heap.size w w') := by
  have HT : Hid (HandleAt w) := hT
  clear hT
  have LG : Hid (∀ {w : World} {b : Nat} (h : Bo w b dj), Calls Tryz.prog 11 #[.int .i64 1, .slice (some ⟨b, 0, none⟩) 2 2] w (LegalY w wz)) := fun {w b} h => by
    have := legal_yes (kind := 1) (by decide) (by decide) (dq2 h) ok_j
    unfold LegalY at this ⊢
    rw [oi_j] at this
    exact this
  have LN : Hid (∀ {w : World} {b : Nat} (h : Bo w b dj), Calls Tryz.prog 11 #[.int .i64 1, .slice (some ⟨b, 6, none⟩) 1 1] w (LegalN w 0)) := fun {w b} h => legal_not (kind := 1) (by decide) (by decide) (dq1 h) (by decide) (fun j hj => absurd hj (Nat.not_lt_zero _)) bad_k
  have FY : Hid (∀ {w : World} {b c : Nat} (h : Bo w b dj) (k : Bo w c ej), Calls Tryz.prog 21 #[.slice (some ⟨c, 0, none⟩) 2 2, .slice (some ⟨b, 0, none⟩) 1 2] w (Ret w .nilIface)) := fun {w b c} h k => by
    have := fits_end (by decide) (by decide) an_j op_j w (ev2 k) (dq0 h) (by decide) (by decide) (fun i hi => by obtain rfl : i = 0 := (by omega); decide) cs_j
    rw [or_j] at this
    exact this
  have FN : Hid (∀ {w : World} {c : Nat} (k : Bo w c ej), Calls Tryz.prog 21 #[.slice (some ⟨c, 0, none⟩) 2 2, .slice none 0 0] w (Ret w (errV 7))) := fun {w c} k => fits_ans (by decide) an_0 w (ev2 k) (Or.inl ⟨rfl, none, 0, rfl, fun _ => rfl⟩) (by decide) (by decide) (fun i hi => absurd hi (Nat.not_lt_zero _)) cs_j
  have EE := cells_equal wz
  have hM : Hid _ := (Ms.nil w)
  go_enter Tryz.func6, Tryz.ntmps6
  go_wp2_with fail
  refine (kput_is 3 _).mono ?_
  rintro e W ⟨rfl, hb⟩
  replace hM := hid (hM.out.later hb)
  clear hb
  generalize hsz : w.heap.size = n at hM ⊢
  clear hsz
  obtain ⟨bd, hbd⟩ : ∃ q, q = W.heap.size := ⟨_, rfl⟩
  replace hM := hid (hM.out.born dj 46 hbd)
  have HBD : Hid _ := hbd
  clear hbd
  go_wp2_with fail
  rw [← HBD.out]
  change Hid (Ms n w (W.alloc (.cells #[.int .i64 0, .int .i64 1, .int .i64 0, .int .i64 3, .int .i64 1, .int .i64 0, .int .i64 1, .int .i64 2, .int .i64 0, .int .i64 0, .int .i64 1, .int .i64 3] 46)) [(bd, dj)] []) at hM
  generalize World.alloc _ _ = W at hM ⊢
  refine (LG.out (hM.out.at 0 rfl)).mono ?_
  rintro e W ⟨rfl, hb⟩
  replace hM := hid (hM.out.later hb)
  clear hb
  obtain ⟨bx1, hbx1⟩ : ∃ q, q = W.heap.size := ⟨_, rfl⟩
  replace hM := hid (hM.out.bornR wz_all.symm 37 (b := bx1) hbx1)
  have Hbx1 : Hid _ := hbx1
  clear hbx1
  go_wp2_with (first
    | (rw [← Hbx1.out]; refine sR rfl (hM.out.at 0 rfl) rfl ((rwC wz).len (rwC wz)) (rwC wz) ?_
       replace hM := hid (hM.out.put 0 rfl (wl wz) ((rwC wz).len (rwC wz)))
       generalize World.setCells _ _ _ _ = W at hM ⊢))
  refine (LN.out (hM.out.at 1 rfl)).mono ?_
  rintro e W ⟨ba, rfl, hq, hA, hb⟩
  replace hM := hid (hM.out.laterB hb hq hA)
  clear hb hq hA
  obtain ⟨bx2, hbx2⟩ : ∃ q, q = W.heap.size := ⟨_, rfl⟩
  replace hM := hid (hM.out.bornR wz_all.symm 37 (b := bx2) hbx2)
  have Hbx2 : Hid _ := hbx2
  clear hbx2
  go_wp2_with (first
    | (rw [← Hbx2.out]; refine sR rfl (hM.out.at 0 rfl) rfl ((rwC wz).len (rwC wz)) (rwC wz) ?_
       replace hM := hid (hM.out.put 0 rfl (wl wz) ((rwC wz).len (rwC wz)))
       generalize World.setCells _ _ _ _ = W at hM ⊢))
  refine (kput_is 3 _).mono ?_
  rintro e W ⟨rfl, hb⟩
  replace hM := hid (hM.out.later hb)
  clear hb
  go_wp2_with fail
  refine (kput_is 3 _).mono ?_
  rintro e W ⟨rfl, hb⟩
  replace hM := hid (hM.out.later hb)
  clear hb
  obtain ⟨bh, hbh⟩ : ∃ q, q = W.heap.size := ⟨_, rfl⟩
  replace hM := hid (hM.out.born ej 56 hbh)
  have HBH : Hid _ := hbh
  clear hbh
  go_wp2_with fail
  rw [← HBH.out]
  change Hid (Ms n w (W.alloc (.cells #[.int .i64 1, .int .i64 0, .int .i64 1, .int .i64 0, .int .i64 3, .int .i64 0, .int .i64 0, .int .i64 0, .int .i64 0, .int .i64 2, .int .i64 0, .int .i64 1, .int .i64 0, .int .i64 3, .int .i64 1, .int .i64 0, .int .i64 1, .int .i64 0] 56)) [(bh, ej), (bx2, (wl wz)), (ba, [.int .i64 13, .int .i64 ((0 : Nat) : Int)]), (bx1, (wl wz)), (bd, dj)] []) at hM
  generalize World.alloc _ _ = W at hM ⊢
  replace hM := hid (hM.out.drew)
  refine wp_region_held_drew (S := fun w' => Bo w' bx1 (wl wz)) (by kernel_rfl) (hM.out.at 3 rfl) (fun hH => ?_)
  generalize World.drew _ = W at hM hH  ⊢
  refine tk 0 rfl hH ?_
  simp only [Act.put, p1, p2, p3]
  refine tk 1 rfl hH ?_
  simp only [Act.put, p1, p2, p3]
  refine tk 2 rfl hH ?_
  simp only [Act.put, p1, p2, p3]
  refine tkR 3 rfl hH (fun _ h => h) (rwC wz) ?_
  simp only [Act.put, p1, p2, p3]
  refine rd1 4 rfl (fun K hK => ?_)
  go_simp
  refine (made0_is _).mono ?_
  rintro e W ⟨rfl, hb⟩
  replace hM := hid (hM.out.later hb)
  clear hb
  go_wp2_with fail
  refine hK.out _ _ (hM.out.at 3 rfl) (fun hH => ?_)
  clear hK K
  try simp only [Act.put, p1, p2, p3]
  refine tk 5 rfl hH ?_
  simp only [Act.put, p1, p2, p3]
  refine tk 6 rfl hH ?_
  simp only [Act.put, p1, p2, p3]
  refine tk 7 rfl hH ?_
  simp only [Act.put, p1, p2, p3]
  refine tk 8 rfl hH ?_
  simp only [Act.put, p1, p2, p3]
  refine rd1 9 rfl (fun K hK => ?_)
  go_simp
  refine (tell_at 13 ba _ (HT.out.below hM.out.below) ((hM.out.at 2 rfl).cell 0 _ rfl)).mono ?_
  rintro e W ⟨rfl, hg⟩
  have hb := hg.below
  clear hg
  replace hM := hid (hM.out.later hb)
  clear hb
  go_wp2_with fail
  refine hK.out _ _ (hM.out.at 3 rfl) (fun hH => ?_)
  clear hK K
  try simp only [Act.put, p1, p2, p3]
  refine tk 10 rfl hH ?_
  simp only [Act.put, p1, p2, p3]
  refine tk 11 rfl hH ?_
  simp only [Act.put, p1, p2, p3]
  refine tk 12 rfl hH ?_
  simp only [Act.put, p1, p2, p3]
  refine tk 13 rfl hH ?_
  simp only [Act.put, p1, p2, p3]
  refine tk 14 rfl hH ?_
  simp only [Act.put, p1, p2, p3]
  refine tk 15 rfl hH ?_
  simp only [Act.put, p1, p2, p3]
  refine rd1 16 rfl (fun K hK => ?_)
  go_simp
  refine (FY.out (hM.out.at 4 rfl) (hM.out.at 0 rfl)).mono ?_
  rintro e W ⟨rfl, hb⟩
  replace hM := hid (hM.out.later hb)
  clear hb
  go_wp2_with fail
  refine hK.out _ _ (hM.out.at 3 rfl) (fun hH => ?_)
  clear hK K
  try simp only [Act.put, p1, p2, p3]
  refine tk 17 rfl hH ?_
  simp only [Act.put, p1, p2, p3]
  refine tk 18 rfl hH ?_
  simp only [Act.put, p1, p2, p3]
  refine tk 19 rfl hH ?_
  simp only [Act.put, p1, p2, p3]
  refine tk 20 rfl hH ?_
  simp only [Act.put, p1, p2, p3]
  refine rd1 21 rfl (fun K hK => ?_)
  go_simp
  refine (FN.out (hM.out.at 0 rfl)).mono ?_
  rintro e W ⟨rfl, hb⟩
  replace hM := hid (hM.out.later hb)
  clear hb
  go_wp2_with fail
  refine hK.out _ _ (hM.out.at 3 rfl) (fun hH => ?_)
  clear hK K
  try simp only [Act.put, p1, p2, p3]
  refine rd1 22 rfl (fun K hK => ?_)
  go_simp
  refine (tell_errno 7 _ (HT.out.below hM.out.below)).mono ?_
  rintro e W ⟨rfl, hg⟩
  have hb := hg.below
  clear hg
  replace hM := hid (hM.out.later hb)
  clear hb
  go_wp2_with fail
  refine hK.out _ _ (hM.out.at 3 rfl) (fun hH => ?_)
  clear hK K
  try simp only [Act.put, p1, p2, p3]
  refine tk 23 rfl hH ?_
  simp only [Act.put, p1, p2, p3]
  refine tk 24 rfl hH ?_
  simp only [Act.put, p1, p2, p3]
  refine tk 25 rfl hH ?_
  simp only [Act.put, p1, p2]
  refine wpAnyH_done (by kernel_rfl) ?_ _
  go_wp2
  go_ret
  exact ⟨rfl, hM.out.below⟩
end Go.Proofs.YteogbpaaacmllabGreatDoor.Tab
namespace Go.Proofs.YteogbpaaacmllabGreatDoor.Tab
set_option maxRecDepth 20000
open Go.RowKit
set_option linter.unusedVariables false

/-- A row of deeds that lies somewhere, to be read. -/
def Ld (W : World) (v : Value) (l : List DD) : Prop :=
  (l = [] ∧ ∃ (a : Option Addr) (c : Nat), v = .slice a 0 c ∧ (a = none → c = 0)) ∨ ∃ g cap, v = .slice (some ⟨g, 0, none⟩) l.length cap ∧ l ≠ [] ∧ l.length ≤ cap ∧ Bo W g (dds l)
theorem Odd.ld {B : Nat} {W : World} {v : Value} {l : List DD} (h : Odd B W v l) : Ld W v l := by
  by_cases hl : l = []
  · subst hl
    rcases h.2 with ⟨e, _⟩ | ⟨g, cap, cur, e, _⟩
    · exact Or.inl ⟨rfl, none, 0, e, fun _ => rfl⟩
    · exact Or.inl ⟨rfl, _, _, e, fun h => by cases h⟩
  · rcases h.form with ⟨_, h⟩ | ⟨g, cap, h1, _, h3, h4⟩
    · exact absurd h hl
    · exact Or.inr ⟨g, cap, h1, hl, h3, h4⟩
theorem Ld.later {W W' : World} {v : Value} {l : List DD} (h : Ld W v l) (hb : Below W.heap.size W W') : Ld W' v l := by
  rcases h with h | ⟨g, cap, h1, h2, h3, h4⟩
  · exact Or.inl h
  · exact Or.inr ⟨g, cap, h1, h2, h3, h4.later hb⟩
theorem Ld.form {W : World} {v : Value} {l : List DD} (h : Ld W v l) : ∃ a c, v = .slice a l.length c := by
  rcases h with ⟨h, a, c, e, _⟩ | ⟨g, cap, h1, _⟩
  · exact ⟨a, c, by rw [h]; exact e⟩
  · exact ⟨_, _, h1⟩
theorem Ld.dq {W : World} {v : Value} {l : List DD} (h : Ld W v l) (hl : l.length ≤ 1000000) : Dq W v l.length (qof l) := by
  rcases h with ⟨h, a, c, e, hc⟩ | ⟨g, cap, h1, _, h3, h4⟩
  · exact Or.inl ⟨by rw [h]; rfl, a, c, e, hc⟩
  · rw [h1]; exact h4.dq (Nat.le_refl _) h3 hl
theorem dds_append (l m : List DD) : dds (l ++ m) = dds l ++ dds m := by simp [dds]
theorem dds_one (l : List DD) : ∀ u ∈ dds l, u.oneCell' = true := by
  intro u hu
  obtain ⟨d, _, hd⟩ := List.mem_flatMap.1 hu
  simp [DD.row, dl] at hd
  rcases hd with rfl | rfl | rfl | rfl | rfl | rfl <;> rfl
theorem Odd.onto {B : Nat} {W : World} {v u : Value} {l m : List DD} (h : Odd B W v l) (hB : B ≤ W.heap.size) (k : Ld W u m) (hn : l.length + m.length ≤ 1000000) (ty : TypeId) :
    ∃ v' W', (Builtin.append_ #[22, 22] ty #[v, u]).run Tryz.prog W = .ok v' W' ∧ Odd B W' v' (l ++ m) ∧ W.grownBy W' v.ownBlock := by
  obtain ⟨i0, hi, hz0, hz1, hz2⟩ := info_parts infoDeed
  have own : ∀ (a : Addr) (c : Nat), (∀ j x, (dds m)[j]? = some x → W.cell? (a.add j) = some x) →
      ∃ v' W', (Builtin.append_ #[22, 22] ty #[v, .slice (some a) m.length c]).run Tryz.prog W = .ok v' W' ∧ Odd B W' v' (l ++ m) ∧ W.grownBy W' v.ownBlock := by
    intro a c hc
    obtain ⟨v', w', hr, ho, hg, _⟩ := run_append_own (P := Tryz.prog) (w := W) B 22 ty 46 i0 (.agg #[.int .i64 0, .int .i64 0, .int .i64 0, .int .i64 0, .int .i64 0, .int .i64 0]) 6 48 deeds_desc hi hz0 hz1 hz2 rfl (by decide) v l.length (dds l) h a m.length c (dds m) (dds_length m) hc (dds_one m) (by unfold maxLen; omega) (by omega) hB
    refine ⟨v', w', hr, ?_, hg⟩
    unfold Odd
    rw [dds_append, List.length_append]
    exact ho
  rcases k with ⟨rfl, a, c, rfl, hc⟩ | ⟨g, cap, rfl, _, _, hG⟩
  · cases a with
    | none =>
      obtain rfl := hc rfl
      refine ⟨v, W, ?_, by rw [List.append_nil]; exact h, ⟨rfl, rfl, rfl, Nat.le_refl _, fun _ _ _ => rfl⟩⟩
      rcases h.2 with ⟨rfl, _⟩ | ⟨g, cap, cur, rfl, hb, hg, hn, hm, hs, ht⟩
      · simp [Builtin.append_, run_underlying deeds_desc, sizeOf, typeInfo, hi, Builtin.lenOf, Builtin.firstCells]
      · simp [Builtin.append_, run_underlying deeds_desc, sizeOf, typeInfo, hi, Builtin.lenOf, Builtin.firstCells, hn, storeCells]
    | some a => exact own a c (by intro j x hx; simp [dds] at hx)
  · exact own ⟨g, 0, none⟩ cap (fun j x hx => by rw [Addr.add_lit, Nat.zero_add]; exact hG.cell j x hx)
theorem wpList_ontoD {P : Program} (hP : P = Tryz.prog) {ops : Array Oper} {rest : List Oper} {o : Oper} {a : Act} {w : World} {Q : Exit → Act → World → Prop} (hgd : o.guard = none) (s x : Operand)
    (ho : o.op = .call { callee := .builtin .append, args := #[s, x], argTypes := #[22, 22] }) {B : Nat} {v u : Value} {l m : List DD} (hs : a.eval s = v) (hx : a.eval x = u) (hB : B ≤ w.heap.size) (h : Odd B w v l) (k : Ld w u m) (hn : l.length + m.length ≤ 1000000)
    (hk : ∀ v' w', Odd B w' v' (l ++ m) → Below B w w' → wpList P ops Q rest (a.put o.dst v') w') : wpList P ops Q (o :: rest) a w := by
  subst hP
  refine wpList_plain hgd fun K hK => ?_
  obtain ⟨v', w', hr, h2, h3⟩ := h.onto hB k hn o.type
  unfold Oper.wp execOp
  simp only [ho, resolve, invoke, builtin, Sem.run_bind, Sem.run_pure, Result.andThen_ok, List.map_toArray, List.map_cons, List.map_nil, hs, hx, hr]
  exact hK _ _ (hk v' w' h2 ((Below.refl _ w).grown h3 hB (fun j hj => (h.lt j hj).1)))

set_option maxHeartbeats 1000000 in
theorem GrowD_nil (n : Nat) (hn : n ≤ 1000000) (w : World) :
    Calls Tryz.prog 27 #[.slice none 0 0, .int .i64 n] w fun e w' => ∃ v', e = .returned v' ∧ Odd w.heap.size w' v' [] ∧ Below w.heap.size w w' := by
  by_cases h0 : 0 < n
  · obtain ⟨i0, hi, hz0, hz1, hz2⟩ := info_parts infoDeed
    have hr : Hid (∀ ty, (Builtin.append_ #[22, 3] ty #[.slice none 0 0, .int .i64 n]).run Tryz.prog w = .ok (.slice (some ⟨w.heap.size, 0, none⟩) n (grownCap w n 0 46)) (w.drew.alloc (.cells (Builtin.zeroCells (Value.agg #[.int .i64 0, .int .i64 0, .int .i64 0, .int .i64 0, .int .i64 0, .int .i64 0]).cells n ++ Builtin.zeroCells (Value.agg #[.int .i64 0, .int .i64 0, .int .i64 0, .int .i64 0, .int .i64 0, .int .i64 0]).cells (grownCap w n 0 46 - n)) 46))) :=
      fun ty => Lib.run_append_nil_zeros w 22 3 ty 46 i0 (.agg #[.int .i64 0, .int .i64 0, .int .i64 0, .int .i64 0, .int .i64 0, .int .i64 0]) .i64 .i64 deeds_desc Tryz.underlying3 hi hz0 n h0 (by omega) (by omega) (by rw [hz2]; omega)
    have hG : n ≤ grownCap w n 0 46 := grownCap_ge w _ _ _
    have hM : grownCap w n 0 46 ≤ maxLen := grownCap_le_maxLen w n 0 46 (by unfold maxLen; omega)
    obtain ⟨G, hGe⟩ : ∃ G, G = grownCap w n 0 46 := ⟨_, rfl⟩
    rw [← hGe] at hr hG hM
    clear hGe hi hz0 hz1 hz2
    have h1 : ¬ ((n : Int) < 0) := by omega
    have h2 : (n : Int) > 0 := by omega
    have hc : (Value.agg #[.int .i64 0, .int .i64 0, .int .i64 0, .int .i64 0, .int .i64 0, .int .i64 0]).cells.size = 6 := rfl
    generalize (Value.agg #[.int .i64 0, .int .i64 0, .int .i64 0, .int .i64 0, .int .i64 0, .int .i64 0]).cells = zc at *
    have HC : Hid (zc.size = 6) := hc
    clear hc
    go_enter Tryz.func27, Tryz.ntmps27
    go_wp2_with (at_builtin; refine Lib.wpList_append_run _ rfl _ _ _ _ rfl _ _ rfl rfl _ _ (hr.out _) ?_)
    go_ret
    refine ⟨_, rfl, ?_, ((Below.refl _ w).drew).alloc (by simp) _⟩
    have hs : (Builtin.zeroCells zc n ++ Builtin.zeroCells zc (G - n)).size = G * 6 := by
      have e : ∀ k, (Builtin.zeroCells zc k).size = k * 6 := fun k => by
        have := HC.out
        simp [Builtin.zeroCells, this]
      rw [Array.size_append, e, e, ← Nat.add_mul]
      congr 1
      omega
    exact World.ownsRow_made (base := w.heap.size) w.drew _ G (by simp) hM hs
  · obtain rfl : n = 0 := by omega
    go_enter Tryz.func27, Tryz.ntmps27
    go_wp2
    go_ret
    exact ⟨_, rfl, Odd.nil _ _, Below.refl _ _⟩
set_option maxHeartbeats 2000000 in
theorem ConcatD_two {A : Nat} {u v : Value} {xs ys : List DD} {w : World} (h0 : w.cell? ⟨A, 0, none⟩ = some u) (h1 : w.cell? ⟨A, 1, none⟩ = some v) (h : Ld w u xs) (k : Ld w v ys) (hx : xs.length + ys.length ≤ 1000000) :
    Calls Tryz.prog 12 #[.slice (some ⟨A, 0, none⟩) 2 2] w fun e w' => ∃ v', e = .returned v' ∧ Odd w.heap.size w' v' (xs ++ ys) ∧ Below w.heap.size w w' := by
  obtain ⟨au, cu, rfl⟩ := h.form
  obtain ⟨av, cv, rfl⟩ := k.form
  have H : Hid (Ld w (.slice au xs.length cu) xs) := h
  have K : Hid (Ld w (.slice av ys.length cv) ys) := k
  clear h k
  have hA : A < w.heap.size := World.block_lt_of_cell? _ _ h0
  obtain ⟨m, hm⟩ : ∃ m, m = xs.length := ⟨_, rfl⟩
  obtain ⟨n, hn⟩ : ∃ n, n = ys.length := ⟨_, rfl⟩
  have M : Hid (m = xs.length) := hm
  have N : Hid (n = ys.length) := hn
  rw [← hm] at h0 H hx
  rw [← hn] at h1 K hx
  clear hm hn
  have e0 : ¬ ((m : Int) < 0) := by omega
  have e1 : ¬ ((m : Int) + (n : Int) < 0) := by omega
  go_enter Tryz.func12, Tryz.ntmps12
  go_wp2_with fail
  go_loopg [3, 11] 2 (fun gg s3 s11 wt => w = wt ∧ ((s11 = .int .i64 0 ∧ s3 = .int .i64 0 ∧ 2 ≤ gg) ∨ (s11 = .int .i64 1 ∧ s3 = .int .i64 m ∧ 1 ≤ gg) ∨ (s11 = .int .i64 2 ∧ s3 = .int .i64 ((m : Int) + n))))
  case atStart => exact ⟨rfl, Or.inl ⟨rfl, rfl, Nat.le_refl _⟩⟩
  case round =>
    obtain ⟨rfl, ⟨rfl, rfl, hgg⟩ | ⟨rfl, rfl, hgg⟩ | ⟨rfl, rfl⟩⟩ := hrel
    · go_wp2
      go_roundg 1
      case measure => omega
      case rel => exact ⟨rfl, Or.inr (Or.inl ⟨rfl, rfl, Nat.le_refl _⟩)⟩
    · go_wp2
      go_roundg 0
      case measure => omega
      case rel => exact ⟨rfl, Or.inr (Or.inr ⟨rfl, rfl⟩)⟩
    · go_wp2_with fail
      have e2 : (m : Int) + (n : Int) = ((m + n : Nat) : Int) := by omega
      rw [e2]
      refine (GrowD_nil (m + n) hx _).mono ?_
      rintro e w1 ⟨v1, rfl, hown, hb⟩
      have S0 : Hid (Odd w.heap.size w1 v1 [] ∧ Below w.heap.size w w1) := ⟨hown, hb⟩
      clear hown hb e0 e1 e2
      go_wp2_with fail
      go_loopg [6, 27] 2 (fun gg s6 s27 wt => ∃ zs, Odd w.heap.size wt s6 zs ∧ Below w.heap.size w wt ∧ ((s27 = .int .i64 0 ∧ zs = [] ∧ 2 ≤ gg) ∨ (s27 = .int .i64 1 ∧ zs = xs ∧ 1 ≤ gg) ∨ (s27 = .int .i64 2 ∧ zs = xs ++ ys)))
      case atStart => exact ⟨[], S0.out.1, S0.out.2, Or.inl ⟨rfl, rfl, Nat.le_refl _⟩⟩
      case round =>
        obtain ⟨zs, hO, hG, ⟨rfl, hz, hgg⟩ | ⟨rfl, hz, hgg⟩ | ⟨rfl, hz⟩⟩ := hrel
        · have c0 : wr.cell? ⟨A, 0, none⟩ = some (.slice au m cu) := by rw [hG.cell (p := ⟨A, 0, none⟩) hA]; exact h0
          have H' : Hid (Ld wr (.slice au m cu) xs) := H.out.later hG
          have O' : Hid (Odd w.heap.size wr u6 []) := hz ▸ hO
          have G' : Hid (Below w.heap.size w wr) := hG
          have hl : Hid (([] : List DD).length + xs.length ≤ 1000000) := show ([] : List DD).length + xs.length ≤ 1000000 by rw [← M.out]; simp; omega
          clear hO hG hz S0
          go_wp2_with (at_builtin; refine wpList_ontoD rfl rfl (.tmp 31) (.tmp 32) rfl rfl rfl G'.out.size O'.out H'.out hl.out ?_; intro v3 w3 hO3 hb3; have Q3 : Hid (Odd w.heap.size w3 v3 ([] ++ xs) ∧ Below w.heap.size w w3) := ⟨hO3, G'.out.trans hb3⟩; clear hO3 hb3)
          go_roundg 1
          case measure => omega
          case rel => exact ⟨xs, Q3.out.1, Q3.out.2, Or.inr (Or.inl ⟨rfl, rfl, Nat.le_refl _⟩)⟩
        · have c1 : wr.cell? ⟨A, 1, none⟩ = some (.slice av n cv) := by rw [hG.cell (p := ⟨A, 1, none⟩) hA]; exact h1
          have H' : Hid (Ld wr (.slice av n cv) ys) := K.out.later hG
          have O' : Hid (Odd w.heap.size wr u6 xs) := hz ▸ hO
          have G' : Hid (Below w.heap.size w wr) := hG
          have hl : Hid (xs.length + ys.length ≤ 1000000) := show xs.length + ys.length ≤ 1000000 by rw [← M.out, ← N.out]; exact hx
          clear hO hG hz S0
          go_wp2_with (at_builtin; refine wpList_ontoD rfl rfl (.tmp 31) (.tmp 32) rfl rfl rfl G'.out.size O'.out H'.out hl.out ?_; intro v3 w3 hO3 hb3; have Q3 : Hid (Odd w.heap.size w3 v3 (xs ++ ys) ∧ Below w.heap.size w w3) := ⟨hO3, G'.out.trans hb3⟩; clear hO3 hb3)
          go_roundg 0
          case measure => omega
          case rel => exact ⟨xs ++ ys, Q3.out.1, Q3.out.2, Or.inr (Or.inr ⟨rfl, rfl⟩)⟩
        · have Q3 : Hid (Odd w.heap.size wr u6 (xs ++ ys) ∧ Below w.heap.size w wr) := ⟨hz ▸ hO, hG⟩
          clear hO hG hz S0
          go_wp2
          go_ret
          exact ⟨_, rfl, Q3.out.1, Q3.out.2⟩
end Go.Proofs.YteogbpaaacmllabGreatDoor.Tab
namespace Go.Proofs.YteogbpaaacmllabGreatDoor
set_option maxRecDepth 20000
open Go.ChangeShapes Go.WideShapes Go.ChangeAt Go.RowKit

theorem own : ownKnob Tryz.prog.godebug = none := by kernel_rfl
theorem gHandle : Tryz.prog.globalNamed "errors.errorType" = some 0 := by kernel_rfl
theorem rtHandle : (Tryz.prog.cutTypes.find? (·.1 == "internal/reflectlite.rtype")).map (·.2) = some 138 := by kernel_rfl
theorem oneRow : ((List.range 201).filter fun t => Tryz.prog.rowNamed t [101, 114, 114, 111, 114]) = [29] := by kernel_rfl
theorem typesSize : Tryz.prog.types.size = 201 := by kernel_rfl

abbrev laidHandle {H : Type} : List (String × DataW H) := [("errors.errorType", Rows.laid_errors_errorType)]

theorem door_handle (os : Os) (args : Array Value) : laidMetH Tryz.prog laidHandle ((World.doorLaid Tryz.prog 400 os).forCall (fun _ _ => 0) ⟨#[], args, []⟩).memory :=
  laidMetH_of_parts (laidMet_nil _ _) (by kernel_rfl)

theorem handle_of_laid {W : World} (h : laidMetH Tryz.prog laidHandle W) : HandleAt W := by
  have h' : laidMet Tryz.prog [] W ∧ handlesMet Tryz.prog laidHandle W := h
  obtain ⟨name, u, ty, e1, e2, e3, e4, e5⟩ := h'.2 _ (List.mem_singleton.2 rfl)
  have en : name = [101, 114, 114, 111, 114] := (Option.some.inj e1).symm
  subst en
  obtain rfl := Option.some.inj (rtHandle.symm.trans e2)
  have hm : ty ∈ (List.range 201).filter fun t => Tryz.prog.rowNamed t [101, 114, 114, 111, 114] := List.mem_filter.2 ⟨List.mem_range.2 (by rw [← typesSize]; exact e3), e4⟩
  rw [oneRow] at hm
  obtain rfl := List.mem_singleton.1 hm
  have hh : typeHandle Tryz.prog 29 = .pointer (some ⟨1, 29, none⟩) := by kernel_rfl
  rw [hh] at e5
  have := World.var?_cell gHandle e5 0
  rw [HandleAt, this]
  rfl
end Go.Proofs.YteogbpaaacmllabGreatDoor
