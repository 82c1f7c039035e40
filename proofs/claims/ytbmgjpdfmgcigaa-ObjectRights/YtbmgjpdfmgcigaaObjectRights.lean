/- ObjectRights is proved: for every number of a kind and every seventeen words the call returns true (the program's Right says of any words what the document says of them). -/
import Derived.Test.YtbmgjpdfmgcigaaRows
import Derived.Test.YtbmgjpdfmgcigaaObG
import Derived.Test.YtbmgjpdfmgcigaaTho
import Derived.Test.YtbmgjpdfmgcigaaArgC

namespace Go.Proofs.Ytbmgjpdfmgcigaa.Tab.objectRights
open Go.ChangeShapes Go.WideShapes Go.ChangeAt Go.RowKit
set_option linter.unusedVariables false

theorem own : ownKnob Try.prog.godebug = none := by kernel_rfl

theorem isTh_ob {k : Int} {c : Nat → Nat} : isTh k c ↔ isOb k c := by
  have l : isLb c = true ↔ WList c := ⟨isLb_w, isLb_of⟩
  have t : WTab c ↔ WT c := by
    unfold WTab WT
    constructor
    · intro ⟨h1, h2, h3⟩
      exact ⟨fun j hj => by have := upC_all h1 (j := j) (by omega) (by omega); omega, by have := upC_all h2 (j := 16) (by omega) (by omega); omega, h3⟩
    · intro ⟨h1, h2, h3⟩
      exact ⟨upC_iff.2 fun j hj => by have := h1 (0 + j) (by omega); omega, upC_iff.2 fun j hj => by rw [show 16 + j = 16 by omega, h2]; decide, h3⟩
  have n : isTb c = true ↔ WN c := by
    unfold isTb WN
    rw [Bool.and_eq_true]
    constructor
    · intro ⟨h1, h2⟩
      exact ⟨by have := upC_all h1 (j := 0) (by omega) (by omega); omega, fun j h3 h4 => by have := upC_all h2 (j := j) (by omega) (by omega); omega⟩
    · intro ⟨h1, h2⟩
      exact ⟨upC_iff.2 fun j hj => by rw [show 0 + j = 0 by omega]; omega, upC_iff.2 fun j hj => by rw [h2 (1 + j) (by omega) (by omega)]; decide⟩
  unfold isTh isOb
  rw [l, t, n]

set_option maxHeartbeats 4000000 in
theorem walk (kind : Int) (c : Nat → Nat) (w0 : (Lit.int .i64 kind).wf = true) (w : World) :
    Calls Try.prog 7 #[.int .i64 kind, .agg (wl c).toArray] w fun e w' => e = .returned (.bool true) ∧ Below w.heap.size w w' := by
  obtain ⟨b, hb⟩ : ∃ b : Bool, b = true ↔ isTh kind c := by
    by_cases h : isTh kind c
    · exact ⟨true, fun _ => h, fun _ => rfl⟩
    · exact ⟨false, fun e => (by cases e), fun e => absurd e h⟩
  have TO : Hid (∀ {bc oc kc : Nat} {w : World} (hc : Wf w bc oc c), _) := fun {bc oc kc w} hc => ThingOf_is (bc := bc) (oc := oc) (kc := kc) hb hc
  have RI : Hid (∀ w, _) := obRight_is (hb.trans isTh_ob)
  obtain ⟨nb, eb, hd⟩ := cells_array
  have HC : Hid _ := hd
  clear hd
  have HCS : Hid _ := cells_size
  have HTZ : Hid _ := thing_size2
  have HTW : Hid _ := thing_size3
  have C0 : Hid (Bo (w.alloc (.cells (wl c).toArray 38)) w.heap.size (wl c)) := Bo.born w (wl c) _ rfl
  have G0 : Hid (Gd w.heap.size w (w.alloc (.cells (wl c).toArray 38))) := (Gd.refl w).new _
  clear hb w0
  go_enter Try.func7, Try.ntmps7
  go_wp2_with fail
  refine (TO.out (Wf.of_bo C0.out)).mono ?_
  rintro e W1 ⟨v, t, x, hv, rfl, _, hb⟩
  have C1 : Hid (Bo W1 w.heap.size (wl c)) := C0.out.later hb
  have G1 : Hid (Gd w.heap.size w W1) := G0.out.later hb
  have HV : Hid _ := hv
  clear hb hv C0 G0
  have L1 : w.heap.size < W1.heap.size := C1.out.lt
  generalize hsz : w.heap.size = n at C1 G1 L1 ⊢
  have HSZ : Hid (w.heap.size = n) := hsz
  clear hsz
  have C2 : Hid (Bo (W1.alloc (.cells #[.int .i64 0, .slice none 0 0, .int .i64 0, .int .i64 0, .int .i64 0, .int .i64 0, .int .i64 0, .int .i64 0, .int .i64 0, .int .i64 0, .int .i64 0, .int .i64 0, .int .i64 0, .int .i64 0, .int .i64 0, .int .i64 0, .int .i64 0, .int .i64 0, .int .i64 0] 44)) n (wl c)) := C1.out.new _
  have G2 : Hid (Gd n w (W1.alloc (.cells #[.int .i64 0, .slice none 0 0, .int .i64 0, .int .i64 0, .int .i64 0, .int .i64 0, .int .i64 0, .int .i64 0, .int .i64 0, .int .i64 0, .int .i64 0, .int .i64 0, .int .i64 0, .int .i64 0, .int .i64 0, .int .i64 0, .int .i64 0, .int .i64 0, .int .i64 0] 44))) := G1.out.new _
  have R2 : Hid (Bo (W1.alloc (.cells #[.int .i64 0, .slice none 0 0, .int .i64 0, .int .i64 0, .int .i64 0, .int .i64 0, .int .i64 0, .int .i64 0, .int .i64 0, .int .i64 0, .int .i64 0, .int .i64 0, .int .i64 0, .int .i64 0, .int .i64 0, .int .i64 0, .int .i64 0, .int .i64 0, .int .i64 0] 44)) W1.heap.size (tg 0 (.slice none 0 0) Tb.zero 0)) := Bo.bornTh W1 0 _ rfl
  clear C1 G1
  go_wp2_with (first
    | (generalize W1.alloc (.cells #[.int .i64 0, .slice none 0 0, .int .i64 0, .int .i64 0, .int .i64 0, .int .i64 0, .int .i64 0, .int .i64 0, .int .i64 0, .int .i64 0, .int .i64 0, .int .i64 0, .int .i64 0, .int .i64 0, .int .i64 0, .int .i64 0, .int .i64 0, .int .i64 0, .int .i64 0] 44) = W2 at C2 G2 R2 ⊢
       refine wpList_store_mid rfl 44 _ _ rfl W1.heap.size _ (tg kind v t x).toArray rfl rfl (R2.out.thereT kind v t x) (HTZ.out _ _ _ _) (tg_all _ HV.out _ _) ?_
       have C3 : Hid (Bo (W2.setCells W1.heap.size 0 (tg kind v t x)) n (wl c)) := C2.out.asideL (by omega) _ _
       have G3 : Hid (Gd n w (W2.setCells W1.heap.size 0 (tg kind v t x))) := G2.out.asideL (by omega) _ _
       clear C2 G2 R2
       generalize W2.setCells W1.heap.size 0 (tg kind v t x) = W3 at C3 G3 ⊢)
    | (refine wpList_load_mid rfl 38 _ rfl n _ rfl (wl c) _ C3.out.range HC.out rfl (HCS.out c) ?_))
  refine (RI.out _).mono ?_
  rintro e W4 ⟨rfl, hb⟩
  have G4 : Hid (Gd n w W4) := G3.out.later hb
  clear hb
  go_wp2
  go_ret
  exact ⟨ret_bool (by simp), G4.out.2⟩


set_option maxRecDepth 100000 in
theorem lifted (os : Os) (started : os.Started) (H : Type) (enc : TypeId × Value → H) :
    ReturnsInHanded {} Try.checked os 7 .any (Rows.objectRightsSpec.pre6 enc Try.prog Try.f7 Rows.objectRightsRow.domain false) (Rows.objectRightsSpec.post enc Try.prog Try.f7 false true false false) := by
  refine returnsInHanded_of_change (C := Try.checked) own started (by kernel_rfl) Try.func7
    (ChangeSpec.witness6 (enc := enc) (C := Try.checked) false ⟨#[], #[.int .i64 0, .agg #[.int .u64 0, .int .u64 0, .int .u64 0, .int .u64 0, .int .u64 0, .int .u64 0, .int .u64 0, .int .u64 0, .int .u64 0, .int .u64 0, .int .u64 0, .int .u64 0, .int .u64 0, .int .u64 0, .int .u64 0, .int .u64 0, .int .u64 0]], []⟩ 8 (by kernel_rfl) (by kernel_rfl) (by kernel_rfl) (by kernel_rfl)) ?_
  intro W base args ds gs before hval0 hW hcnd _
  have hval : ∀ (j : Nat) t v, Try.f7.params[j]? = some t → args[j]? = some v → Value.okWide Try.prog W .any base t v := hval0
  have hW' := hW
  obtain ⟨p, q, hA0, hV, rfl, hfz, hnd⟩ := hW
  have hA : DataW.TrodAll enc Try.prog W 0 (fun _ => true) true Try.f7.params.toList args.toList ds p := hA0
  rw [Try.params7] at hA hval
  obtain ⟨v0, vs0, d0, ds0, p0, q0, hargs, rfl, rfl, h0, r0⟩ := trodAll_cons hA
  obtain ⟨v1, vs1, d1, ds1, p1, q1, rfl, rfl, rfl, h1, r1⟩ := trodAll_cons r0
  obtain ⟨rfl, rfl, rfl⟩ := trodAll_nil r1
  obtain rfl : args = #[v0, v1] := by cases args; simp_all
  obtain ⟨rfl, rfl⟩ := trodVars_none hV
  obtain ⟨a0, rfl, rfl, rfl, w0⟩ := open_int Try.underlying3 (hval 0 3 v0 rfl rfl) h0
  obtain ⟨t1, rfl⟩ := cells_of_trod (hval 1 38 v1 rfl rfl) h1
  have hlt := hW'.lt
  clear hA0 hval0
  refine (walk a0 t1 w0 W  ).mono fun e W' ⟨he, hg⟩ => ?_
  subst he
  exact ⟨_, rfl, post_below (pv := []) hW' (fun _ _ _ => (trodAll_cons_mk (shut_bool Try.underlying4 _) trodAll_mk0)) (fun sp hsp => (trodAll_cons_mk (shut_int Try.underlying3 w0) (trodAll_cons_mk (cells_stay h1 hg (fun x hx => hlt x (by simp [hx])) (fun x hx => hsp x (by simp [hx]))) trodAll_mk0))) (fun _ _ => rfl) (by simp) (hg.frame _)⟩

theorem over : Rows.objectRightsRow.holds Try.pinned (OpenSpec.ofChange Rows.objectRightsSpec) :=
  OpenClaim.holds_of_wide 7 Try.f7 rfl rfl rfl rfl rfl rfl rfl ⟨rfl, rfl, rfl, rfl, rfl⟩ rfl rfl rfl rfl rfl (by kernel_rfl) Try.func7 (by kernel_rfl)
    (of_decide_eq_true (by kernel_rfl)) (by unfold Func.isWrapper; first | (rw [if_pos (by decide +kernel)]; kernel_rfl) | (rw [if_neg (by decide +kernel)]; exact ⟨rfl, rfl⟩))
    (fun os started H enc _ => lifted os started H enc)

theorem proved : Rows.ObjectRightsSaid :=
  over
#print axioms proved
end Go.Proofs.Ytbmgjpdfmgcigaa.Tab.objectRights
