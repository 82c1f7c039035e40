/- OpSays is proved: for every answer the call returns true (package op's Say answers as the reference's); fmt's text is told by the authors' own function; the library's and the package's variables stand as the program's text lays them. -/
import Derived.Test.YtdohomdhgkhebabFmtRfS
import Derived.Test.YtdohomdhgkhebabFmtSayF
import Derived.Test.YtdohomdhgkhebabFmtArgAn
import Derived.Test.YtdohomdhgkhebabFmtLaidS
import Derived.Test.YtdohomdhgkhebabFmtCards
import Derived.SevenTiedAt
import Derived.SevenToldRow
import Derived.Stop.JoinedTold
import Derived.Deep.DeepWitnessRef
import Derived.Deep.RegionHeld3

namespace Go.Proofs.YtdohomdhgkhebabFmt.opSays
open Go.ChangeShapes Go.WideShapes Go.ChangeAt Go.RowKit
set_option linter.unusedVariables false

open Go.Extern.Stop Go.Stop Go.Extern
theorem own : ownKnob Tryf.prog.godebug = none := ownS

theorem sy_keep {W w1 w2 : World} {n : Nat} {p0 p1 : Value} (hb : Below w1.heap.size w1 w2) (h : w1.cell? ⟨n, 0, none⟩ = some p0 ∧ w1.cell? ⟨n, 1, none⟩ = some p1 ∧ Es w1 ∧ Below W.heap.size W w1) :
    w2.cell? ⟨n, 0, none⟩ = some p0 ∧ w2.cell? ⟨n, 1, none⟩ = some p1 ∧ Es w2 ∧ Below W.heap.size W w2 := by
  obtain ⟨h0, h1, h4, h5⟩ := h
  exact ⟨below_cell5 hb h0, below_cell5 hb h1, h4.later hb, h5.trans (hb.mono h5.size)⟩
theorem sy_es {W w1 : World} {n : Nat} {p0 p1 : Value} (h : w1.cell? ⟨n, 0, none⟩ = some p0 ∧ w1.cell? ⟨n, 1, none⟩ = some p1 ∧ Es w1 ∧ Below W.heap.size W w1) : Es w1 := h.2.2.1
theorem sy_bl {W w1 : World} {n : Nat} {p0 p1 : Value} (h : w1.cell? ⟨n, 0, none⟩ = some p0 ∧ w1.cell? ⟨n, 1, none⟩ = some p1 ∧ Es w1 ∧ Below W.heap.size W w1) : Below W.heap.size W w1 := h.2.2.2

set_option maxHeartbeats 4000000 in
theorem walk_yes (F : Interp) {c v : Nat} (h : Ft c v) (w : World) (hF : F.told.answers w.tape) (hE : Es w) :
    Calls Tryf.prog 4 #[.agg #[.int .i64 c, .int .i64 v]] w fun e w' => e = .returned (.bool true) ∧ Below w.heap.size w w' := by
  have b0 : Hid (Below w.heap.size w (w.alloc (.cells #[.int .i64 c, .int .i64 v] 34))) := (Below.refl _ _).alloc (Nat.le_refl _) _
  have E0 : Hid (Es (w.alloc (.cells #[.int .i64 c, .int .i64 v] 34))) := hE.later b0.out
  have c0 : (w.alloc (.cells #[.int .i64 c, .int .i64 v] 34)).cell? ⟨w.heap.size, 0, none⟩ = some (.int .i64 c) := by simp
  have c1 : (w.alloc (.cells #[.int .i64 c, .int .i64 v] 34)).cell? ⟨w.heap.size, 1, none⟩ = some (.int .i64 v) := by simp
  have HF : Hid (F.told.answers (w.alloc (.cells #[.int .i64 c, .int .i64 v] 34)).tape) := hF
  clear hE hF
  go_enter Tryf.func4, Tryf.ntmps4
  go_wp2_with fail
  generalize hWW : w.alloc (.cells #[.int .i64 c, .int .i64 v] 34) = W at *
  clear hWW
  generalize hn : w.heap.size = n at *
  have HN : Hid _ := hn
  clear hn
  go_region_held3 (fun w' => w'.cell? ⟨n, 0, none⟩ = some (.int .i64 c) ∧ w'.cell? ⟨n, 1, none⟩ = some (.int .i64 v) ∧ Es w' ∧ Below W.heap.size W w')
    (first | assumption | exact ⟨c0, c1, E0.out.later (Below.refl _ _).drew, (Below.refl _ _).drew⟩ | exact sy_keep (by assumption) (by assumption))
    (first | (go_at_call 8; refine (Say_yes h _ (sy_es (by assumption)).pw (sy_es (by assumption)).cd).mono ?_; rintro e wz ⟨rfl, hb⟩) | (go_at_call 9; refine (RfSay_yes F h _ ((sy_bl (by assumption)).tape ▸ HF.out) (sy_es (by assumption)).asc).mono ?_; rintro e wz ⟨rfl, hb⟩))
  all_goals
    have HB : Hid _ := sy_bl (by assumption)
    go_wp2
    go_ret
    refine ⟨rfl, ?_⟩
    rw [HN.out]
    exact b0.out.trans (HB.out.mono (HN.out ▸ b0.out.size))

set_option maxHeartbeats 4000000 in
theorem walk_no {c v : Int} (h : ¬ Ft c v) (w : World) (hE : Es w) :
    Calls Tryf.prog 4 #[.agg #[.int .i64 c, .int .i64 v]] w fun e w' => e = .returned (.bool true) ∧ Below w.heap.size w w' := by
  have b0 : Hid (Below w.heap.size w (w.alloc (.cells #[.int .i64 c, .int .i64 v] 34))) := (Below.refl _ _).alloc (Nat.le_refl _) _
  have E0 : Hid (Es (w.alloc (.cells #[.int .i64 c, .int .i64 v] 34))) := hE.later b0.out
  have c0 : (w.alloc (.cells #[.int .i64 c, .int .i64 v] 34)).cell? ⟨w.heap.size, 0, none⟩ = some (.int .i64 c) := by simp
  have c1 : (w.alloc (.cells #[.int .i64 c, .int .i64 v] 34)).cell? ⟨w.heap.size, 1, none⟩ = some (.int .i64 v) := by simp
  clear hE
  go_enter Tryf.func4, Tryf.ntmps4
  go_wp2_with fail
  generalize hWW : w.alloc (.cells #[.int .i64 c, .int .i64 v] 34) = W at *
  clear hWW
  generalize hn : w.heap.size = n at *
  have HN : Hid _ := hn
  clear hn
  go_region_held3 (fun w' => w'.cell? ⟨n, 0, none⟩ = some (.int .i64 c) ∧ w'.cell? ⟨n, 1, none⟩ = some (.int .i64 v) ∧ Es w' ∧ Below W.heap.size W w')
    (first | assumption | exact ⟨c0, c1, E0.out.later (Below.refl _ _).drew, (Below.refl _ _).drew⟩ | exact sy_keep (by assumption) (by assumption))
    (first | (go_at_call 8; refine (Say_no h _).mono ?_; rintro e wz ⟨rfl, hb⟩) | (go_at_call 9; refine (RfSay_no h _).mono ?_; rintro e wz ⟨rfl, hb⟩))
  all_goals
    have HB : Hid _ := sy_bl (by assumption)
    go_wp2
    go_ret
    refine ⟨rfl, ?_⟩
    rw [HN.out]
    exact b0.out.trans (HB.out.mono (HN.out ▸ b0.out.size))

theorem walk (F : Interp) (a b : Int) (_w0 : (Lit.int .i64 a).wf = true) (_w1 : (Lit.int .i64 b).wf = true) (w : World) (hF : F.told.answers w.tape) (hE : Es w) :
    Calls Tryf.prog 4 #[.agg #[.int .i64 a, .int .i64 b]] w fun e w' => e = .returned (.bool true) ∧ Below w.heap.size w w' := by
  by_cases h : Ft a b
  · obtain ⟨c, rfl⟩ := Int.eq_ofNat_of_zero_le (show 0 ≤ a by have := h.c1; omega)
    obtain ⟨v, rfl⟩ := Int.eq_ofNat_of_zero_le h.v0
    exact walk_yes F h w hF hE
  · exact walk_no h w hE


set_option maxRecDepth 100000 in
theorem witness_row (os : Os) {H : Type} (enc : TypeId × Value → H) :
    (OpenSpec.ofChange Rows.opSaysSpec).preRow enc Tryf.prog Tryf.f4 [] false laidS ((World.doorLaid Tryf.prog 1000 os).forCall (fun _ _ => 0) ⟨#[], #[.agg #[.int .i64 0, .int .i64 0]], []⟩).memory #[.agg #[.int .i64 0, .int .i64 0]] := by
  have hw : (DataW.whole enc Tryf.prog ((World.doorLaid Tryf.prog 1000 os).forCall (fun _ _ => 0) ⟨#[], #[.agg #[.int .i64 0, .int .i64 0]], []⟩).memory Tryf.f4.params.toList (OpenSpec.ofChange Rows.opSaysSpec).vars false (#[.agg #[.int .i64 0, .int .i64 0]] : Array Value).toList 8).map (fun x => (x.1, x.2.1)) =
      some ([.agg [.lit (.int .i64 0), .lit (.int .i64 0)]], []) := by kernel_rfl
  obtain ⟨⟨x1, x2, x3⟩, hx, hx1⟩ := Option.map_eq_some_iff.1 hw
  simp only [Prod.mk.injEq] at hx1
  obtain ⟨rfl, rfl⟩ := hx1
  exact OpenSpec.preRow_of_cond 8 hx (by kernel_rfl) (fun k hk => by cases hk) (by kernel_rfl) (door_S os _)

set_option maxRecDepth 100000 in
theorem lifted (os : Os) (started : os.Started) (H : Type) (enc : TypeId × Value → H) :
    ReturnsInTold none {} Tryf.checked os 4 .any Input.okWide ((OpenSpec.ofChange Rows.opSaysSpec).preRow enc Tryf.prog Tryf.f4 [] false laidS) (fun F => ((OpenSpec.ofChange Rows.opSaysSpec).at F).post enc Tryf.prog Tryf.f4 false true false false) (aloneAtReturn Tryf.prog) nothingAlways := by
  refine returnsInTold_of_row (C := Tryf.checked) (s := (OpenSpec.ofChange Rows.opSaysSpec)) (by kernel_rfl) own started (by kernel_rfl) Tryf.func4
    (OpenSpec.witness_stopped_atRef (enc := enc) (C := Tryf.checked) false (World.doorLaid Tryf.prog 1000 os) #[.agg #[.int .i64 0, .int .i64 0]] rfl (by kernel_rfl) (by kernel_rfl) (by kernel_rfl) (witness_row os enc)) ?_
  intro F W base args ds gs before _ hF hval0 hW _ _ _ hL _
  have hval : ∀ (j : Nat) t v, Tryf.f4.params[j]? = some t → args[j]? = some v → Value.okWide Tryf.prog W .any base t v := hval0
  have hW' := hW
  obtain ⟨p, q, hA0, hV, rfl, hfz, hnd⟩ := hW
  have hA : DataW.TrodAll enc Tryf.prog W 0 (fun _ => true) true Tryf.f4.params.toList args.toList ds p := hA0
  rw [Tryf.params4] at hA hval
  obtain ⟨v0, vs0, d0, ds0, p0, q0, hargs, rfl, rfl, h0, r0⟩ := trodAll_cons hA
  obtain ⟨rfl, rfl, rfl⟩ := trodAll_nil r0
  obtain rfl : args = #[v0] := by cases args; simp_all
  obtain ⟨rfl, rfl⟩ := trodVars_none hV
  obtain ⟨a0, b0, rfl, wa0, wb0⟩ := answer_of_trod (hval 0 34 v0 rfl rfl) h0
  have hT := env_of_S hL
  have hlt := hW'.lt
  clear hA0 hval0
  refine (walk F a0 b0 wa0 wb0 W hF hT).mono fun e W' ⟨he, hg⟩ => ?_
  subst he
  exact ⟨_, rfl, post_below (s := Rows.opSaysSpec) (pv := []) hW' (fun _ _ _ => (trodAll_cons_mk (shut_bool Tryf.underlying4 _) trodAll_mk0)) (fun sp hsp => (trodAll_cons_mk (answer_stay h0 hg (fun x hx => hlt x (by simp [hx])) (fun x hx => hsp x (by simp [hx]))) trodAll_mk0)) (fun _ _ => rfl) (by simp) (hg.frame _)⟩

theorem laid_out' : laidOutB Tryf.pinned.checked.prog = true := by kernel_rfl
theorem stops_are : Tryf.pinned.checked.prog.stops = ["fmt.Sprint"] := by kernel_rfl
theorem stopKnobs_are : Tryf.pinned.checked.prog.stopKnobs = [] := by kernel_rfl
theorem quiet_all (os : Os) : Stop.quiet Tryf.pinned.checked.prog os := by
  intro k hk
  rw [stopKnobs_are] at hk
  cases hk

theorem proved : Rows.OpSaysToldSaid :=
  Claim7.holds_of_told_tied_any_at .later 4 Tryf.f4 "fmt.Sprint" [] [] _ _ _ _ _ (by kernel_rfl) rfl rfl rfl laid_out' (by kernel_rfl) rfl ⟨rfl, rfl, rfl, rfl, rfl, rfl, rfl⟩ rfl rfl (by kernel_rfl) (by kernel_rfl) Tryf.func4 (by kernel_rfl)
    (of_decide_eq_true (by kernel_rfl)) (of_decide_eq_true (by kernel_rfl)) stops_are.symm rfl stopKnobs_are.symm (by kernel_rfl)
    (by kernel_rfl) (by kernel_rfl) (by kernel_rfl) (by kernel_rfl) (by kernel_rfl) (by kernel_rfl) (by kernel_rfl) (by kernel_rfl) (by kernel_rfl) rfl (by kernel_rfl) rfl rfl
    rfl rfl
    rfl (by kernel_rfl) (by kernel_rfl) (by kernel_rfl) (by decide) (by kernel_rfl) opSays_row_tie
    (OpenClaim.moreEntering_of (by kernel_rfl) (by kernel_rfl) (by kernel_rfl) (by kernel_rfl) (by kernel_rfl) (by kernel_rfl) (by kernel_rfl) (by kernel_rfl) (by kernel_rfl) (by kernel_rfl))
    ⟨_, WideRow.started_initial, quiet_all _⟩
    (fun os started _ H enc _ => lifted os started H enc)
#print axioms proved
end Go.Proofs.YtdohomdhgkhebabFmt.opSays
