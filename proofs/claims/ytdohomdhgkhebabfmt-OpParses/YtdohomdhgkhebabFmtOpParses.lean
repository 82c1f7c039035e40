/- OpParses is proved: for every text the call returns true (package op's Parse answers as the reference's, its error too); fmt's text is told by the authors' own function; the library's and the package's variables stand as the program's text lays them. -/
import Derived.Test.YtdohomdhgkhebabFmtRpT
import Derived.Test.YtdohomdhgkhebabFmtParse
import Derived.Test.YtdohomdhgkhebabFmtErrs
import Derived.Test.YtdohomdhgkhebabFmtFrm
import Derived.Test.YtdohomdhgkhebabFmtLaidQ
import Derived.Test.YtdohomdhgkhebabFmtCards
import Derived.SevenTiedAt
import Derived.SevenToldRow
import Derived.Stop.JoinedTold
import Derived.Deep.DeepWitnessRef

namespace Go.Proofs.YtdohomdhgkhebabFmt.opParses
open Go.ChangeShapes Go.WideShapes Go.ChangeAt Go.RowKit
set_option linter.unusedVariables false

open Go.Extern.Stop Go.Stop Go.Extern
theorem bare_nil' (w : World) : Calls Tryf.prog 7 #[.nilIface, .int .i64 0] w fun e w' => e = .returned (.bool true) ∧ Below w.heap.size w w' :=
  (bare_nil 0 w).mono fun _ _ ⟨he, hw⟩ => ⟨he, hw ▸ Below.refl _ _⟩
theorem bare_err' (n : Int) (w : World) (hH : HandleAt w) : Calls Tryf.prog 7 #[.iface 24 (.int .i64 n), .int .i64 n] w fun e w' => e = .returned (.bool true) ∧ Below w.heap.size w w' :=
  (bare_errno n n w hH).mono fun _ _ ⟨he, hg⟩ => ⟨by rw [he, decide_eq_true rfl], hg.below⟩

theorem RfParse_at (F : Interp) {o k v : Nat} (h : Rt o k v) (w : World) (hF : F.told.answers w.tape) (hA : As w) :
    Calls Tryf.prog 5 #[.string ⟨(txt o k v).toArray⟩] w fun e w' => e = .returned (.tuple #[.agg #[.int .i64 o, .int .i64 k, .int .i64 v], .int .i64 0]) ∧ Below w.heap.size w w' := by
  obtain ⟨m, rfl⟩ : ∃ m : Nat, o = m + 1 := ⟨o - 1, by have := h.w1; omega⟩
  have e : (((m + 1 : Nat)) : Int) = (m : Int) + 1 := by omega
  rw [e] at h ⊢
  exact RfParse_txt F h _ rfl w hF hA

set_option maxHeartbeats 4000000 in
theorem walk_txt (F : Interp) {o k v : Nat} (w : World) (hF : F.told.answers w.tape) (hE : Eq' w) (h : Rt o k v) (hl : ((txt o k v).length : Int) ≤ 200) :
    Calls Tryf.prog 3 #[.string ⟨(txt o k v).toArray⟩] w fun e w' => e = .returned (.bool true) ∧ Below w.heap.size w w' := by
  have HF : Hid _ := hF
  clear hF
  have G0 : Hid _ := Below.refl w.heap.size w
  have E0 : Hid _ := hE.later G0.out
  clear hE
  go_enter Tryf.func3, Tryf.ntmps3
  go_wp2_with fail
  refine (RfParse_at F h _ (by rw [G0.out.tape]; exact HF.out) E0.out.asc).mono ?_
  rintro e u1 ⟨rfl, hb⟩
  have G1 : Hid _ := G0.out.trans (hb.mono G0.out.size)
  have E1 : Hid _ := E0.out.later hb
  clear hb G0 E0
  have G1L0 : Hid _ := G1.out.alloc G1.out.size (.cells #[.int .i64 o, .int .i64 k, .int .i64 v] 23)
  have E1L0 : Hid _ := E1.out.later ((Below.refl u1.heap.size u1).alloc (Nat.le_refl _) (.cells #[.int .i64 o, .int .i64 k, .int .i64 v] 23))
  clear G1 E1
  have P0 : Hid _ := Below.refl (u1.alloc (.cells #[.int .i64 o, .int .i64 k, .int .i64 v] 23)).heap.size (u1.alloc (.cells #[.int .i64 o, .int .i64 k, .int .i64 v] 23))
  go_wp2_with fail
  refine (Parse_txt h _ E1L0.out.en).mono ?_
  rintro e u2 ⟨rfl, hb⟩
  have G2 : Hid _ := G1L0.out.trans (hb.mono G1L0.out.size)
  have E2 : Hid _ := E1L0.out.later hb
  have P1 : Hid _ := P0.out.trans (hb.mono P0.out.size)
  clear hb G1L0 E1L0 P0
  have x2_0_0 := Below.bx P1.out 0 rfl
  have x2_0_1 := Below.bx P1.out 1 rfl
  have x2_0_2 := Below.bx P1.out 2 rfl
  have z2_0 := World.block_lt_of_cell? _ _ x2_0_0
  have G2L2 : Hid _ := G2.out.alloc G2.out.size (.cells #[.int .i64 o, .int .i64 k, .int .i64 v] 23)
  have E2L2 : Hid _ := E2.out.later ((Below.refl u2.heap.size u2).alloc (Nat.le_refl _) (.cells #[.int .i64 o, .int .i64 k, .int .i64 v] 23))
  have P2 : Hid _ := P1.out.alloc P1.out.size (.cells #[.int .i64 o, .int .i64 k, .int .i64 v] 23)
  clear G2 E2 P1
  have P3 : Hid _ := Below.refl (u2.alloc (.cells #[.int .i64 o, .int .i64 k, .int .i64 v] 23)).heap.size (u2.alloc (.cells #[.int .i64 o, .int .i64 k, .int .i64 v] 23))
  go_wp2_with fail
  refine (bare_nil' _).mono ?_
  rintro e u3 ⟨rfl, hb⟩
  have G3 : Hid _ := G2L2.out.trans (hb.mono G2L2.out.size)
  have E3 : Hid _ := E2L2.out.later hb
  clear x2_0_0 x2_0_1 x2_0_2 z2_0
  have P4 : Hid _ := P2.out.trans (hb.mono P2.out.size)
  have P5 : Hid _ := P3.out.trans (hb.mono P3.out.size)
  clear hb G2L2 E2L2 P2 P3
  have x3_0_0 := Below.bx P4.out 0 rfl
  have x3_0_1 := Below.bx P4.out 1 rfl
  have x3_0_2 := Below.bx P4.out 2 rfl
  have z3_0 := World.block_lt_of_cell? _ _ x3_0_0
  have x3_1_0 := Below.bx P5.out 0 rfl
  have x3_1_1 := Below.bx P5.out 1 rfl
  have x3_1_2 := Below.bx P5.out 2 rfl
  have z3_1 := World.block_lt_of_cell? _ _ x3_1_0
  go_wp2
  go_ret
  exact ⟨rfl, G3.out⟩

set_option maxHeartbeats 4000000 in
theorem walk_none (F : Interp) (s : ByteArray) (w : World) (hF : F.told.answers w.tape) (hE : Eq' w) (hs : NoText s.data.toList) (hz : s.size ≤ 1000) (hl : (s.size : Int) ≤ 200) :
    Calls Tryf.prog 3 #[.string s] w fun e w' => e = .returned (.bool true) ∧ Below w.heap.size w w' := by
  have HF : Hid _ := hF
  clear hF
  have G0 : Hid _ := Below.refl w.heap.size w
  have E0 : Hid _ := hE.later G0.out
  clear hE
  go_enter Tryf.func3, Tryf.ntmps3
  go_wp2_with fail
  refine (RfParse_none F s hz hs _ (by rw [G0.out.tape]; exact HF.out) E0.out.asc).mono ?_
  rintro e u1 ⟨rfl, hb⟩
  have G1 : Hid _ := G0.out.trans (hb.mono G0.out.size)
  have E1 : Hid _ := E0.out.later hb
  clear hb G0 E0
  have G1L0 : Hid _ := G1.out.alloc G1.out.size (.cells #[.int .i64 0, .int .i64 0, .int .i64 0] 23)
  have E1L0 : Hid _ := E1.out.later ((Below.refl u1.heap.size u1).alloc (Nat.le_refl _) (.cells #[.int .i64 0, .int .i64 0, .int .i64 0] 23))
  clear G1 E1
  have P0 : Hid _ := Below.refl (u1.alloc (.cells #[.int .i64 0, .int .i64 0, .int .i64 0] 23)).heap.size (u1.alloc (.cells #[.int .i64 0, .int .i64 0, .int .i64 0] 23))
  go_wp2_with fail
  refine (Parse_none s hz hs _ E1L0.out.en).mono ?_
  rintro e u2 ⟨rfl, hb⟩
  have G2 : Hid _ := G1L0.out.trans (hb.mono G1L0.out.size)
  have E2 : Hid _ := E1L0.out.later hb
  have P1 : Hid _ := P0.out.trans (hb.mono P0.out.size)
  clear hb G1L0 E1L0 P0
  have x2_0_0 := Below.bx P1.out 0 rfl
  have x2_0_1 := Below.bx P1.out 1 rfl
  have x2_0_2 := Below.bx P1.out 2 rfl
  have z2_0 := World.block_lt_of_cell? _ _ x2_0_0
  have G2L2 : Hid _ := G2.out.alloc G2.out.size (.cells #[.int .i64 0, .int .i64 0, .int .i64 0] 23)
  have E2L2 : Hid _ := E2.out.later ((Below.refl u2.heap.size u2).alloc (Nat.le_refl _) (.cells #[.int .i64 0, .int .i64 0, .int .i64 0] 23))
  have P2 : Hid _ := P1.out.alloc P1.out.size (.cells #[.int .i64 0, .int .i64 0, .int .i64 0] 23)
  clear G2 E2 P1
  have P3 : Hid _ := Below.refl (u2.alloc (.cells #[.int .i64 0, .int .i64 0, .int .i64 0] 23)).heap.size (u2.alloc (.cells #[.int .i64 0, .int .i64 0, .int .i64 0] 23))
  go_wp2_with fail
  refine (bare_err' 3 _ E2L2.out.hd).mono ?_
  rintro e u3 ⟨rfl, hb⟩
  have G3 : Hid _ := G2L2.out.trans (hb.mono G2L2.out.size)
  have E3 : Hid _ := E2L2.out.later hb
  clear x2_0_0 x2_0_1 x2_0_2 z2_0
  have P4 : Hid _ := P2.out.trans (hb.mono P2.out.size)
  have P5 : Hid _ := P3.out.trans (hb.mono P3.out.size)
  clear hb G2L2 E2L2 P2 P3
  have x3_0_0 := Below.bx P4.out 0 rfl
  have x3_0_1 := Below.bx P4.out 1 rfl
  have x3_0_2 := Below.bx P4.out 2 rfl
  have z3_0 := World.block_lt_of_cell? _ _ x3_0_0
  have x3_1_0 := Below.bx P5.out 0 rfl
  have x3_1_1 := Below.bx P5.out 1 rfl
  have x3_1_2 := Below.bx P5.out 2 rfl
  have z3_1 := World.block_lt_of_cell? _ _ x3_1_0
  go_wp2
  go_ret
  exact ⟨rfl, G3.out⟩

set_option maxHeartbeats 4000000 in
theorem walk (F : Interp) (s : ByteArray) (w1 : s.size ≤ maxLen) (w : World) (hF : F.told.answers w.tape) (hE : Eq' w) :
    Calls Tryf.prog 3 #[.string s] w fun e w' => e = .returned (.bool true) ∧ Below w.heap.size w w' := by
  by_cases hl : (s.size : Int) ≤ 200
  · rcases text_cases s.data.toList with hs | ⟨p, q, r, hs, e⟩
    · exact walk_none F s w hF hE hs (by omega) hl
    · obtain rfl := ba_of e
      exact walk_txt F w hF hE hs hl
  · unfold maxLen at w1
    have hl' : (200 : Int) < (s.size : Int) := by omega
    have G0 : Hid _ := Below.refl w.heap.size w
    have E0 : Hid _ := hE.later G0.out
    clear hE
    go_enter Tryf.func3, Tryf.ntmps3
    go_wp2
    go_ret
    exact ⟨rfl, G0.out⟩


set_option maxRecDepth 100000 in
theorem witness_row (os : Os) {H : Type} (enc : TypeId × Value → H) :
    (OpenSpec.ofChange Rows.opParsesSpec).preRow enc Tryf.prog Tryf.f3 [] false laidQ ((World.doorLaid Tryf.prog 1000 os).forCall (fun _ _ => 0) ⟨#[], #[.string ⟨#[]⟩], []⟩).memory #[.string ⟨#[]⟩] := by
  have hw : (DataW.whole enc Tryf.prog ((World.doorLaid Tryf.prog 1000 os).forCall (fun _ _ => 0) ⟨#[], #[.string ⟨#[]⟩], []⟩).memory Tryf.f3.params.toList (OpenSpec.ofChange Rows.opParsesSpec).vars false (#[.string ⟨#[]⟩] : Array Value).toList 8).map (fun x => (x.1, x.2.1)) =
      some ([.lit (.string [])], []) := by kernel_rfl
  obtain ⟨⟨x1, x2, x3⟩, hx, hx1⟩ := Option.map_eq_some_iff.1 hw
  simp only [Prod.mk.injEq] at hx1
  obtain ⟨rfl, rfl⟩ := hx1
  exact OpenSpec.preRow_of_cond 8 hx (by kernel_rfl) (fun k hk => by cases hk) (by kernel_rfl) (door_Q os _)

set_option maxRecDepth 100000 in
theorem lifted (os : Os) (started : os.Started) (H : Type) (enc : TypeId × Value → H) :
    ReturnsInTold none {} Tryf.checked os 3 .any Input.okWide ((OpenSpec.ofChange Rows.opParsesSpec).preRow enc Tryf.prog Tryf.f3 [] false laidQ) (fun F => ((OpenSpec.ofChange Rows.opParsesSpec).at F).post enc Tryf.prog Tryf.f3 false true false false) (aloneAtReturn Tryf.prog) nothingAlways := by
  refine returnsInTold_of_row (C := Tryf.checked) (s := (OpenSpec.ofChange Rows.opParsesSpec)) (by kernel_rfl) own started (by kernel_rfl) Tryf.func3
    (OpenSpec.witness_stopped_atRef (enc := enc) (C := Tryf.checked) false (World.doorLaid Tryf.prog 1000 os) #[.string ⟨#[]⟩] rfl (by kernel_rfl) (by kernel_rfl) (by kernel_rfl) (witness_row os enc)) ?_
  intro F W base args ds gs before _ hF hval0 hW _ _ _ hL _
  have hval : ∀ (j : Nat) t v, Tryf.f3.params[j]? = some t → args[j]? = some v → Value.okWide Tryf.prog W .any base t v := hval0
  have hW' := hW
  obtain ⟨p, q, hA0, hV, rfl, hfz, hnd⟩ := hW
  have hA : DataW.TrodAll enc Tryf.prog W 0 (fun _ => true) true Tryf.f3.params.toList args.toList ds p := hA0
  rw [Tryf.params3] at hA hval
  obtain ⟨v0, vs0, d0, ds0, p0, q0, hargs, rfl, rfl, h0, r0⟩ := trodAll_cons hA
  obtain ⟨rfl, rfl, rfl⟩ := trodAll_nil r0
  obtain rfl : args = #[v0] := by cases args; simp_all
  obtain ⟨rfl, rfl⟩ := trodVars_none hV
  obtain ⟨a0, rfl, rfl, rfl, w0⟩ := Go.ChangeMaps.open_string Tryf.underlying9 (hval 0 9 v0 rfl rfl) h0
  have hT := env_of_Q hL
  have hlt := hW'.lt
  clear hA0 hval0
  refine (walk F a0 w0 W hF hT).mono fun e W' ⟨he, hg⟩ => ?_
  subst he
  exact ⟨_, rfl, post_below (s := Rows.opParsesSpec) (pv := []) hW' (fun _ _ _ => (trodAll_cons_mk (shut_bool Tryf.underlying4 _) trodAll_mk0)) (fun sp hsp => (trodAll_cons_mk (Go.ChangeMaps.shut_string Tryf.underlying9 w0) trodAll_mk0)) (fun _ _ => rfl) (by simp) (hg.frame _)⟩

theorem laid_out' : laidOutB Tryf.pinned.checked.prog = true := by kernel_rfl
theorem stops_are : Tryf.pinned.checked.prog.stops = ["fmt.Sprint"] := by kernel_rfl
theorem stopKnobs_are : Tryf.pinned.checked.prog.stopKnobs = [] := by kernel_rfl
theorem quiet_all (os : Os) : Stop.quiet Tryf.pinned.checked.prog os := by
  intro k hk
  rw [stopKnobs_are] at hk
  cases hk

theorem proved : Rows.OpParsesToldSaid :=
  Claim7.holds_of_told_tied_any_at .later 3 Tryf.f3 "fmt.Sprint" [] [] _ _ _ _ _ (by kernel_rfl) rfl rfl rfl laid_out' (by kernel_rfl) rfl ⟨rfl, rfl, rfl, rfl, rfl, rfl, rfl⟩ rfl rfl (by kernel_rfl) (by kernel_rfl) Tryf.func3 (by kernel_rfl)
    (of_decide_eq_true (by kernel_rfl)) (of_decide_eq_true (by kernel_rfl)) stops_are.symm rfl stopKnobs_are.symm (by kernel_rfl)
    (by kernel_rfl) (by kernel_rfl) (by kernel_rfl) (by kernel_rfl) (by kernel_rfl) (by kernel_rfl) (by kernel_rfl) (by kernel_rfl) (by kernel_rfl) rfl (by kernel_rfl) rfl rfl
    rfl rfl
    rfl (by kernel_rfl) (by kernel_rfl) (by kernel_rfl) (by decide) (by kernel_rfl) opParses_row_tie
    (OpenClaim.moreEntering_of (by kernel_rfl) (by kernel_rfl) (by kernel_rfl) (by kernel_rfl) (by kernel_rfl) (by kernel_rfl) (by kernel_rfl) (by kernel_rfl) (by kernel_rfl) (by kernel_rfl))
    ⟨_, WideRow.started_initial, quiet_all _⟩
    (fun os started _ H enc _ => lifted os started H enc)
#print axioms proved
end Go.Proofs.YtdohomdhgkhebabFmt.opParses
