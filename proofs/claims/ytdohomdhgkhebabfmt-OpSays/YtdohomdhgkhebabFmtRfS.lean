/- The reference's Say, by its contract: fmt's text told. -/
import Derived.Test.YtdohomdhgkhebabFmtFm
import Derived.Test.YtdohomdhgkhebabFmtEnvA
import Derived.Test.YtdohomdhgkhebabFmtEnvC
import Derived.Test.YtdohomdhgkhebabFmtRfF
import Derived.Test.YtdohomdhgkhebabFmtFrm
import Derived.Deep.RegionWith
import Derived.ChangeAlike
namespace Go.Proofs.YtdohomdhgkhebabFmt
open Go.RowKit Go.Kit Go.Extern.Stop Go.Stop Go.Extern

def five : List UInt8 := [100, 111, 110, 101, 32, 101, 109, 112, 116, 121, 32, 102, 117, 108, 108, 32, 97, 98, 115, 101, 110, 116, 32, 119, 114, 111, 110, 103]
theorem five_fields : Lib.fields five = [cnm 1, cnm 2, cnm 3, cnm 4, cnm 5] := by decide +kernel
theorem five_ascii : ∀ b ∈ five, b.toNat < 128 := by decide +kernel

theorem fields5_any (w : World) (hA : As w) :
    Calls Tryf.prog 10 #[.string ⟨#[100, 111, 110, 101, 32, 101, 109, 112, 116, 121, 32, 102, 117, 108, 108, 32, 97, 98, 115, 101, 110, 116, 32, 119, 114, 111, 110, 103]⟩] w fun e w' => e = .returned (.slice (some ⟨w.heap.size, 0, none⟩) 5 5) ∧ Below w.heap.size w w' ∧ w.heap.size < w'.heap.size ∧ ∀ j : Nat, j ≤ 4 → w'.cell? ⟨w.heap.size, j, none⟩ = some (.string ⟨(cnm (j + 1)).toArray⟩) := by
  refine (sh_strings_Fields_laid ⟨five.toArray⟩ w (by decide) (fun j b h => five_ascii b (List.mem_of_getElem? h)) hA).mono ?_
  rintro e w' ⟨he, hw⟩
  have e6 : Lib.fields (⟨five.toArray⟩ : ByteArray).data.toList = [cnm 1, cnm 2, cnm 3, cnm 4, cnm 5] := five_fields
  rw [e6] at he hw
  subst hw
  refine ⟨he, (Below.refl _ _).alloc (Nat.le_refl _) _, by simp, fun j hj => ?_⟩
  rw [World.cell?_alloc_new]
  obtain rfl | rfl | rfl | rfl | rfl : j = 0 ∨ j = 1 ∨ j = 2 ∨ j = 3 ∨ j = 4 := by omega
  all_goals rfl

theorem below_cell5 {w w1 : World} (hb : Below w.heap.size w w1) {a : Addr} {u : Value} (h : w.cell? a = some u) : w1.cell? a = some u := by
  rw [hb.cell (World.block_lt_of_cell? w _ h)]; exact h

theorem RfSay_no {c v : Int} (h : ¬ Ft c v) (w : World) :
    Calls Tryf.prog 9 #[.agg #[.int .i64 c, .int .i64 v]] w fun e w' => e = .returned (.string ⟨#[63]⟩) ∧ Below w.heap.size w w' := by
  go_enter Tryf.func9, Tryf.ntmps9
  go_wp2_with (go_at_call 21; refine (RfFits_isnt h _).mono ?_; rintro e w' ⟨rfl, rfl⟩)
  go_ret
  exact ⟨rfl, (((Gr.refl w).alloc _ _).alloc _ _).below⟩

set_option maxHeartbeats 4000000 in
theorem rsay_0 (F : Interp) {j : Nat} (h : Ft ((j : Int) + 1) 0) (w : World) (hF : F.told.answers w.tape) (hA : As w) :
    Calls Tryf.prog 9 #[.agg #[.int .i64 ((j : Int) + 1), .int .i64 0]] w fun e w' => e = .returned (.string ⟨(say ((j : Int) + 1) 0).toArray⟩) ∧ Below w.heap.size w w' := by
  have hj : (j : Int) ≤ 4 := by have := h.c5; omega
  have hj0 : (0 : Int) ≤ (j : Int) := by omega
  have hj1 : (j : Int) < 5 := by omega
  have hwr : IntKind.i64.wrap (j : Int) = (j : Int) := IntWalk.i64_in _ (by omega)
  have l1 := cnm_len ((j : Int) + 1)
  have b0 : Hid (Below w.heap.size w ((w.alloc (.cells #[.int .i64 ((j : Int) + 1), .int .i64 0] 34)).alloc (.cells #[.int .i64 ((j : Int) + 1), .int .i64 0] 34))) := (((Gr.refl w).alloc _ _).alloc _ _).below
  have A0 : Hid (As (((w.alloc (.cells #[.int .i64 ((j : Int) + 1), .int .i64 0] 34)).alloc (.cells #[.int .i64 ((j : Int) + 1), .int .i64 0] 34)).drew)) := As.later hA (((((Gr.refl w).alloc _ _).alloc _ _).drew).below)
  have c0 : ((w.alloc (.cells #[.int .i64 ((j : Int) + 1), .int .i64 0] 34)).alloc (.cells #[.int .i64 ((j : Int) + 1), .int .i64 0] 34)).cell? ⟨w.heap.size, 0, none⟩ = some (.int .i64 ((j : Int) + 1)) := by simp
  have c1 : ((w.alloc (.cells #[.int .i64 ((j : Int) + 1), .int .i64 0] 34)).alloc (.cells #[.int .i64 ((j : Int) + 1), .int .i64 0] 34)).cell? ⟨w.heap.size, 1, none⟩ = some (.int .i64 0) := by simp
  clear hA l1
  go_enter Tryf.func9, Tryf.ntmps9
  go_wp2_with (go_at_call 21; refine (RfFits_is h _).mono ?_; rintro e w' ⟨rfl, rfl⟩)
  generalize hWW : ((w.alloc (.cells #[.int .i64 ((j : Int) + 1), .int .i64 0] 34)).alloc (.cells #[.int .i64 ((j : Int) + 1), .int .i64 0] 34)) = W at *
  clear hWW
  generalize hn : w.heap.size = n at *
  have HN : Hid _ := hn
  clear hn
  go_region_with (go_at_call 10; refine (fields5_any _ A0.out).mono ?_; rintro e w1 ⟨rfl, hb, hz, hc⟩; have d0 := below_cell5 hb c0; have d1 := below_cell5 hb c1; have hcj : w1.cell? ⟨W.heap.size, j, none⟩ = some (.string ⟨(cnm ((j : Int) + 1)).toArray⟩) := hc j (by omega); clear hc)
  all_goals
    have B1 : Hid (Below n w w1) := b0.out.trans ((show Below W.heap.size W w1 from (Below.refl _ _).drew.trans hb).mono (HN.out ▸ b0.out.size))
    have hz1 := World.block_lt_of_cell? _ _ d0
    clear hb hz c0 c1
    have hFw : F.told.answers w1.tape := B1.out.tape ▸ hF
    clear hF
    go_wp2
    go_ret
    refine ⟨ret_str (by simp [say, prt]), ?_⟩
    rw [HN.out]
    exact B1.out

set_option maxHeartbeats 4000000 in
theorem rsay_1 (F : Interp) {j : Nat} {v : Int} (h : Ft ((j : Int) + 1) v) (hv : ¬ v = 0) (w : World) (hF : F.told.answers w.tape) (hA : As w) :
    Calls Tryf.prog 9 #[.agg #[.int .i64 ((j : Int) + 1), .int .i64 v]] w fun e w' => e = .returned (.string ⟨(say ((j : Int) + 1) v).toArray⟩) ∧ Below w.heap.size w w' := by
  have hj : (j : Int) ≤ 4 := by have := h.c5; omega
  have hj0 : (0 : Int) ≤ (j : Int) := by omega
  have hj1 : (j : Int) < 5 := by omega
  have hwr : IntKind.i64.wrap (j : Int) = (j : Int) := IntWalk.i64_in _ (by omega)
  have l1 := cnm_len ((j : Int) + 1)
  have l3 := prt_len 32 v h.v0 h.v1
  have t2 := spr_told F 32 v (by have := h.v0; omega) h.v1
  unfold rd at t2
  have m0 : ¬ 9223372036854775807 < (cnm ((j : Int) + 1)).length + (prt 32 v).length := by omega
  have b0 : Hid (Below w.heap.size w ((w.alloc (.cells #[.int .i64 ((j : Int) + 1), .int .i64 v] 34)).alloc (.cells #[.int .i64 ((j : Int) + 1), .int .i64 v] 34))) := (((Gr.refl w).alloc _ _).alloc _ _).below
  have A0 : Hid (As (((w.alloc (.cells #[.int .i64 ((j : Int) + 1), .int .i64 v] 34)).alloc (.cells #[.int .i64 ((j : Int) + 1), .int .i64 v] 34)).drew)) := As.later hA (((((Gr.refl w).alloc _ _).alloc _ _).drew).below)
  have c0 : ((w.alloc (.cells #[.int .i64 ((j : Int) + 1), .int .i64 v] 34)).alloc (.cells #[.int .i64 ((j : Int) + 1), .int .i64 v] 34)).cell? ⟨w.heap.size, 0, none⟩ = some (.int .i64 ((j : Int) + 1)) := by simp
  have c1 : ((w.alloc (.cells #[.int .i64 ((j : Int) + 1), .int .i64 v] 34)).alloc (.cells #[.int .i64 ((j : Int) + 1), .int .i64 v] 34)).cell? ⟨w.heap.size, 1, none⟩ = some (.int .i64 v) := by simp
  clear hA l1 l3
  go_enter Tryf.func9, Tryf.ntmps9
  go_wp2_with (go_at_call 21; refine (RfFits_is h _).mono ?_; rintro e w' ⟨rfl, rfl⟩)
  generalize hWW : ((w.alloc (.cells #[.int .i64 ((j : Int) + 1), .int .i64 v] 34)).alloc (.cells #[.int .i64 ((j : Int) + 1), .int .i64 v] 34)) = W at *
  clear hWW
  generalize hn : w.heap.size = n at *
  have HN : Hid _ := hn
  clear hn
  go_region_with (go_at_call 10; refine (fields5_any _ A0.out).mono ?_; rintro e w1 ⟨rfl, hb, hz, hc⟩; have d0 := below_cell5 hb c0; have d1 := below_cell5 hb c1; have hcj : w1.cell? ⟨W.heap.size, j, none⟩ = some (.string ⟨(cnm ((j : Int) + 1)).toArray⟩) := hc j (by omega); clear hc)
  all_goals
    have B1 : Hid (Below n w w1) := b0.out.trans ((show Below W.heap.size W w1 from (Below.refl _ _).drew.trans hb).mono (HN.out ▸ b0.out.size))
    have hz1 := World.block_lt_of_cell? _ _ d0
    clear hb hz c0 c1
    have hFw : F.told.answers w1.tape := B1.out.tape ▸ hF
    clear hF
    have hF' := answers_open hFw
    have s1 := spr_call
    have s2 := spr_guard
    have s3 := spr_int
    have s4 := spr_str
    go_wp2
    go_ret
    refine ⟨ret_str (by rw [str_app]; rfl), ?_⟩
    rw [HN.out]
    exact ((B1.out.alloc (HN.out ▸ B1.out.size) _).drew)

theorem RfSay_yes (F : Interp) {c v : Int} (h : Ft c v) (w : World) (hF : F.told.answers w.tape) (hA : As w) :
    Calls Tryf.prog 9 #[.agg #[.int .i64 c, .int .i64 v]] w fun e w' => e = .returned (.string ⟨(say c v).toArray⟩) ∧ Below w.heap.size w w' := by
  obtain ⟨j, hj⟩ := Int.eq_ofNat_of_zero_le (show 0 ≤ c - 1 by have := h.c1; omega)
  obtain rfl : c = (j : Int) + 1 := by omega
  by_cases hv : v = 0
  · subst hv
    exact rsay_0 F h w hF hA
  · exact rsay_1 F h hv w hF hA
end Go.Proofs.YtdohomdhgkhebabFmt
