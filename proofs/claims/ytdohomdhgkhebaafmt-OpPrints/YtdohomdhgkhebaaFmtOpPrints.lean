/- OpPrints is proved: for every operation the call returns true (package op's Print answers as the reference's text, its error too); fmt's text is told by the authors' own function; the library's and the package's variables stand as the program's text lays them. -/
import Derived.Test.YtdohomdhgkhebaaFmtRfTx
import Derived.Test.YtdohomdhgkhebaaFmtPrint
import Derived.Test.YtdohomdhgkhebaaFmtErrs
import Derived.Test.YtdohomdhgkhebaaFmtArgOp
import Derived.Test.YtdohomdhgkhebaaFmtLaidP
import Derived.Test.YtdohomdhgkhebaaFmtCards
import Derived.SevenTiedAt
import Derived.SevenToldRow
import Derived.Stop.JoinedTold
import Derived.Deep.DeepWitnessRef

namespace Go.Proofs.YtdohomdhgkhebaaFmt.opPrints
open Go.ChangeShapes Go.WideShapes Go.ChangeAt Go.RowKit
set_option linter.unusedVariables false

open Go.Extern.Stop Go.Stop Go.Extern
theorem bare_nil' (w : World) : Calls Tryf.prog 6 #[.nilIface, .int .i64 0] w fun e w' => e = .returned (.bool true) ∧ Below w.heap.size w w' :=
  (bare_nil 0 w).mono fun _ _ ⟨he, hw⟩ => ⟨he, hw ▸ Below.refl _ _⟩
theorem bare_err' (n : Int) (w : World) (hH : HandleAt w) : Calls Tryf.prog 6 #[.iface 24 (.int .i64 n), .int .i64 n] w fun e w' => e = .returned (.bool true) ∧ Below w.heap.size w w' :=
  (bare_errno n n w hH).mono fun _ _ ⟨he, hg⟩ => ⟨by rw [he, decide_eq_true rfl], hg.below⟩
set_option maxHeartbeats 4000000 in
theorem walk (F : Interp) (a b c : Int) (_w0 : (Lit.int .i64 a).wf = true) (_w1 : (Lit.int .i64 b).wf = true) (_w2 : (Lit.int .i64 c).wf = true) (w : World) (hF : F.told.answers w.tape) (hE : Ep w) :
    Calls Tryf.prog 3 #[.agg #[.int .i64 a, .int .i64 b, .int .i64 c]] w fun e w' => e = .returned (.bool true) ∧ Below w.heap.size w w' := by
  have HF : Hid _ := hF
  clear hF
  by_cases h : Rt a b c
  · obtain ⟨o, rfl⟩ := Int.eq_ofNat_of_zero_le (show 0 ≤ a by have := h.w1; omega)
    obtain ⟨k, rfl⟩ := Int.eq_ofNat_of_zero_le (show 0 ≤ b by have := h.k0; omega)
    obtain ⟨v, rfl⟩ := Int.eq_ofNat_of_zero_le (show 0 ≤ c by have := h.v0; omega)
    have G0 : Hid _ := (Below.refl w.heap.size w).alloc (Nat.le_refl _) (.cells #[.int .i64 o, .int .i64 k, .int .i64 v] 23)
    have E0 : Hid _ := hE.later G0.out
    clear hE
    have P0 : Hid _ := Below.refl (w.alloc (.cells #[.int .i64 o, .int .i64 k, .int .i64 v] 23)).heap.size (w.alloc (.cells #[.int .i64 o, .int .i64 k, .int .i64 v] 23))
    go_enter Tryf.func3, Tryf.ntmps3
    go_wp2_with fail
    refine (RfText_yes F h _ (by rw [G0.out.tape]; exact HF.out) E0.out.asc).mono ?_
    rintro e u1 ⟨rfl, hb⟩
    have G1 : Hid _ := G0.out.trans (hb.mono G0.out.size)
    have E1 : Hid _ := E0.out.later hb
    have P1 : Hid _ := P0.out.trans (hb.mono P0.out.size)
    clear hb G0 E0 P0
    have x1_0_0 := Below.box P1.out 0 rfl
    have x1_0_1 := Below.box P1.out 1 rfl
    have x1_0_2 := Below.box P1.out 2 rfl
    have z1_0 := World.block_lt_of_cell? _ _ x1_0_0
    go_wp2_with fail
    refine (Print_yes h _ E1.out.pw E1.out.wh).mono ?_
    rintro e u2 ⟨rfl, hb⟩
    have G2 : Hid _ := G1.out.trans (hb.mono G1.out.size)
    have E2 : Hid _ := E1.out.later hb
    clear x1_0_0 x1_0_1 x1_0_2 z1_0
    have P2 : Hid _ := P1.out.trans (hb.mono P1.out.size)
    clear hb G1 E1 P1
    have x2_0_0 := Below.box P2.out 0 rfl
    have x2_0_1 := Below.box P2.out 1 rfl
    have x2_0_2 := Below.box P2.out 2 rfl
    have z2_0 := World.block_lt_of_cell? _ _ x2_0_0
    go_wp2_with fail
    refine (bare_nil' _).mono ?_
    rintro e u3 ⟨rfl, hb⟩
    have G3 : Hid _ := G2.out.trans (hb.mono G2.out.size)
    have E3 : Hid _ := E2.out.later hb
    clear x2_0_0 x2_0_1 x2_0_2 z2_0
    have P3 : Hid _ := P2.out.trans (hb.mono P2.out.size)
    clear hb G2 E2 P2
    have x3_0_0 := Below.box P3.out 0 rfl
    have x3_0_1 := Below.box P3.out 1 rfl
    have x3_0_2 := Below.box P3.out 2 rfl
    have z3_0 := World.block_lt_of_cell? _ _ x3_0_0
    go_wp2
    go_ret
    exact ⟨rfl, G3.out⟩
  · have G0 : Hid _ := (Below.refl w.heap.size w).alloc (Nat.le_refl _) (.cells #[.int .i64 a, .int .i64 b, .int .i64 c] 23)
    have E0 : Hid _ := hE.later G0.out
    clear hE
    have P0 : Hid _ := Below.refl (w.alloc (.cells #[.int .i64 a, .int .i64 b, .int .i64 c] 23)).heap.size (w.alloc (.cells #[.int .i64 a, .int .i64 b, .int .i64 c] 23))
    go_enter Tryf.func3, Tryf.ntmps3
    go_wp2_with fail
    refine (RfText_no h _).mono ?_
    rintro e u1 ⟨rfl, hb⟩
    have G1 : Hid _ := G0.out.trans (hb.mono G0.out.size)
    have E1 : Hid _ := E0.out.later hb
    have P1 : Hid _ := P0.out.trans (hb.mono P0.out.size)
    clear hb G0 E0 P0
    have x1_0_0 := Below.box P1.out 0 rfl
    have x1_0_1 := Below.box P1.out 1 rfl
    have x1_0_2 := Below.box P1.out 2 rfl
    have z1_0 := World.block_lt_of_cell? _ _ x1_0_0
    go_wp2_with fail
    refine (Print_no h _).mono ?_
    rintro e u2 ⟨rfl, hb⟩
    have G2 : Hid _ := G1.out.trans (hb.mono G1.out.size)
    have E2 : Hid _ := E1.out.later hb
    clear x1_0_0 x1_0_1 x1_0_2 z1_0
    have P2 : Hid _ := P1.out.trans (hb.mono P1.out.size)
    clear hb G1 E1 P1
    have x2_0_0 := Below.box P2.out 0 rfl
    have x2_0_1 := Below.box P2.out 1 rfl
    have x2_0_2 := Below.box P2.out 2 rfl
    have z2_0 := World.block_lt_of_cell? _ _ x2_0_0
    go_wp2_with fail
    refine (bare_err' 1 _ E2.out.hd).mono ?_
    rintro e u3 ⟨rfl, hb⟩
    have G3 : Hid _ := G2.out.trans (hb.mono G2.out.size)
    have E3 : Hid _ := E2.out.later hb
    clear x2_0_0 x2_0_1 x2_0_2 z2_0
    have P3 : Hid _ := P2.out.trans (hb.mono P2.out.size)
    clear hb G2 E2 P2
    have x3_0_0 := Below.box P3.out 0 rfl
    have x3_0_1 := Below.box P3.out 1 rfl
    have x3_0_2 := Below.box P3.out 2 rfl
    have z3_0 := World.block_lt_of_cell? _ _ x3_0_0
    go_wp2
    go_ret
    exact ⟨rfl, G3.out⟩


set_option maxRecDepth 100000 in
theorem witness_row (os : Os) {H : Type} (enc : TypeId × Value → H) :
    (OpenSpec.ofChange Rows.opPrintsSpec).preRow enc Tryf.prog Tryf.f3 [] false laidP ((World.doorLaid Tryf.prog 1000 os).forCall (fun _ _ => 0) ⟨#[], #[.agg #[.int .i64 0, .int .i64 0, .int .i64 0]], []⟩).memory #[.agg #[.int .i64 0, .int .i64 0, .int .i64 0]] := by
  have hw : (DataW.whole enc Tryf.prog ((World.doorLaid Tryf.prog 1000 os).forCall (fun _ _ => 0) ⟨#[], #[.agg #[.int .i64 0, .int .i64 0, .int .i64 0]], []⟩).memory Tryf.f3.params.toList (OpenSpec.ofChange Rows.opPrintsSpec).vars false (#[.agg #[.int .i64 0, .int .i64 0, .int .i64 0]] : Array Value).toList 8).map (fun x => (x.1, x.2.1)) =
      some ([.agg [.lit (.int .i64 0), .lit (.int .i64 0), .lit (.int .i64 0)]], []) := by kernel_rfl
  obtain ⟨⟨x1, x2, x3⟩, hx, hx1⟩ := Option.map_eq_some_iff.1 hw
  simp only [Prod.mk.injEq] at hx1
  obtain ⟨rfl, rfl⟩ := hx1
  exact OpenSpec.preRow_of_cond 8 hx (by kernel_rfl) (fun k hk => by cases hk) (by kernel_rfl) (door_P os _)

set_option maxRecDepth 100000 in
theorem lifted (os : Os) (started : os.Started) (H : Type) (enc : TypeId × Value → H) :
    ReturnsInTold none {} Tryf.checked os 3 .any Input.okWide ((OpenSpec.ofChange Rows.opPrintsSpec).preRow enc Tryf.prog Tryf.f3 [] false laidP) (fun F => ((OpenSpec.ofChange Rows.opPrintsSpec).at F).post enc Tryf.prog Tryf.f3 false true false false) (aloneAtReturn Tryf.prog) nothingAlways := by
  refine returnsInTold_of_row (C := Tryf.checked) (s := (OpenSpec.ofChange Rows.opPrintsSpec)) (by kernel_rfl) own started (by kernel_rfl) Tryf.func3
    (OpenSpec.witness_stopped_atRef (enc := enc) (C := Tryf.checked) false (World.doorLaid Tryf.prog 1000 os) #[.agg #[.int .i64 0, .int .i64 0, .int .i64 0]] rfl (by kernel_rfl) (by kernel_rfl) (by kernel_rfl) (witness_row os enc)) ?_
  intro F W base args ds gs before _ hF hval0 hW _ _ _ hL _
  have hval : ∀ (j : Nat) t v, Tryf.f3.params[j]? = some t → args[j]? = some v → Value.okWide Tryf.prog W .any base t v := hval0
  have hW' := hW
  obtain ⟨p, q, hA0, hV, rfl, hfz, hnd⟩ := hW
  have hA : DataW.TrodAll enc Tryf.prog W 0 (fun _ => true) true Tryf.f3.params.toList args.toList ds p := hA0
  rw [Tryf.params3] at hA hval
  obtain ⟨v0, vs0, d0, ds0, p0, q0, hargs, rfl, rfl, h0, r0⟩ := trodAll_cons hA
  obtain ⟨rfl, rfl, rfl⟩ := trodAll_nil r0
  obtain rfl : args = #[v0] := by cases args; simp_all
  obtain ⟨rfl, rfl⟩ := trodVars_none hV
  obtain ⟨a0, b0, c0, rfl, wa0, wb0, wc0⟩ := op_of_trod (hval 0 23 v0 rfl rfl) h0
  have hT := env_of_P hL
  have hlt := hW'.lt
  clear hA0 hval0
  refine (walk F a0 b0 c0 wa0 wb0 wc0 W hF hT).mono fun e W' ⟨he, hg⟩ => ?_
  subst he
  exact ⟨_, rfl, post_below (s := Rows.opPrintsSpec) (pv := []) hW' (fun _ _ _ => (trodAll_cons_mk (shut_bool Tryf.underlying4 _) trodAll_mk0)) (fun sp hsp => (trodAll_cons_mk (op_stay h0 hg (fun x hx => hlt x (by simp [hx])) (fun x hx => hsp x (by simp [hx]))) trodAll_mk0)) (fun _ _ => rfl) (by simp) (hg.frame _)⟩

theorem laid_out' : laidOutB Tryf.pinned.checked.prog = true := by kernel_rfl
theorem stops_are : Tryf.pinned.checked.prog.stops = ["fmt.Sprint"] := by kernel_rfl
theorem stopKnobs_are : Tryf.pinned.checked.prog.stopKnobs = [] := by kernel_rfl
theorem quiet_all (os : Os) : Stop.quiet Tryf.pinned.checked.prog os := by
  intro k hk
  rw [stopKnobs_are] at hk
  cases hk

theorem proved : Rows.OpPrintsToldSaid :=
  Claim7.holds_of_told_tied_any_at .later 3 Tryf.f3 "fmt.Sprint" [] [] _ _ _ _ _ (by kernel_rfl) rfl rfl rfl laid_out' (by kernel_rfl) rfl ⟨rfl, rfl, rfl, rfl, rfl, rfl, rfl⟩ rfl rfl (by kernel_rfl) (by kernel_rfl) Tryf.func3 (by kernel_rfl)
    (of_decide_eq_true (by kernel_rfl)) (of_decide_eq_true (by kernel_rfl)) stops_are.symm rfl stopKnobs_are.symm (by kernel_rfl)
    (by kernel_rfl) (by kernel_rfl) (by kernel_rfl) (by kernel_rfl) (by kernel_rfl) (by kernel_rfl) (by kernel_rfl) (by kernel_rfl) (by kernel_rfl) rfl (by kernel_rfl) rfl rfl
    rfl rfl
    rfl (by kernel_rfl) (by kernel_rfl) (by kernel_rfl) (by decide) (by kernel_rfl) opPrints_row_tie
    (OpenClaim.moreEntering_of (by kernel_rfl) (by kernel_rfl) (by kernel_rfl) (by kernel_rfl) (by kernel_rfl) (by kernel_rfl) (by kernel_rfl) (by kernel_rfl) (by kernel_rfl) (by kernel_rfl))
    ⟨_, WideRow.started_initial, quiet_all _⟩
    (fun os started _ H enc _ => lifted os started H enc)
#print axioms proved
end Go.Proofs.YtdohomdhgkhebaaFmt.opPrints
