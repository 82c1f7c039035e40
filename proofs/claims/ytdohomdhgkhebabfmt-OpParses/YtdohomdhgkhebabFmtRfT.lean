/- The reference's OpText, by its contract: fmt's text told. -/
import Derived.Test.YtdohomdhgkhebabFmtFm
import Derived.Test.YtdohomdhgkhebabFmtEnvA
import Derived.Test.YtdohomdhgkhebabFmtEnvW
import Derived.Test.YtdohomdhgkhebabFmtRfR
import Derived.Test.YtdohomdhgkhebabFmtFrm
import Derived.Deep.RegionWith
import Derived.ChangeAlike
namespace Go.Proofs.YtdohomdhgkhebabFmt
open Go.RowKit Go.Kit Go.Extern.Stop Go.Stop Go.Extern

def six : List UInt8 := [112, 117, 116, 32, 116, 97, 107, 101, 32, 102, 114, 111, 110, 116, 32, 98, 97, 99, 107, 32, 112, 101, 101, 107, 32, 99, 111, 117, 110, 116]
theorem six_fields : Lib.fields six = [nm 1, nm 2, nm 3, nm 4, nm 5, nm 6] := by decide +kernel
theorem six_ascii : ∀ b ∈ six, b.toNat < 128 := by decide +kernel

theorem fields_any (w : World) (hA : As w) :
    Calls Tryf.prog 10 #[.string ⟨#[112, 117, 116, 32, 116, 97, 107, 101, 32, 102, 114, 111, 110, 116, 32, 98, 97, 99, 107, 32, 112, 101, 101, 107, 32, 99, 111, 117, 110, 116]⟩] w fun e w' => e = .returned (.slice (some ⟨w.heap.size, 0, none⟩) 6 6) ∧ Below w.heap.size w w' ∧ w.heap.size < w'.heap.size ∧ ∀ j : Nat, j ≤ 5 → w'.cell? ⟨w.heap.size, j, none⟩ = some (.string ⟨(nm (j + 1)).toArray⟩) := by
  refine (sh_strings_Fields_laid ⟨six.toArray⟩ w (by decide) (fun j b h => six_ascii b (List.mem_of_getElem? h)) hA).mono ?_
  rintro e w' ⟨he, hw⟩
  have e6 : Lib.fields (⟨six.toArray⟩ : ByteArray).data.toList = [nm 1, nm 2, nm 3, nm 4, nm 5, nm 6] := six_fields
  rw [e6] at he hw
  subst hw
  refine ⟨he, (Below.refl _ _).alloc (Nat.le_refl _) _, by simp, fun j hj => ?_⟩
  rw [World.cell?_alloc_new]
  obtain rfl | rfl | rfl | rfl | rfl | rfl : j = 0 ∨ j = 1 ∨ j = 2 ∨ j = 3 ∨ j = 4 ∨ j = 5 := by omega
  all_goals rfl

theorem below_cell {w w1 : World} (hb : Below w.heap.size w w1) {a : Addr} {u : Value} (h : w.cell? a = some u) : w1.cell? a = some u := by
  rw [hb.cell (World.block_lt_of_cell? w _ h)]; exact h

theorem RfText_no {o k v : Int} (h : ¬ Rt o k v) (w : World) :
    Calls Tryf.prog 13 #[.agg #[.int .i64 o, .int .i64 k, .int .i64 v]] w fun e w' => e = .returned (.tuple #[.string ⟨#[]⟩, .int .i64 1]) ∧ Below w.heap.size w w' := by
  go_enter Tryf.func13, Tryf.ntmps13
  go_wp2_with (go_at_call 27; refine (RfRight_isnt h _).mono ?_; rintro e w' ⟨rfl, rfl⟩)
  go_ret2
  exact ⟨rfl, (((Gr.refl w).alloc _ _).alloc _ _).below⟩

theorem ret_strs' {a b : ByteArray} {v : Value} (h : a = b) : Ending.returned (.tuple #[.string a, v]) = .returned (.tuple #[.string b, v]) := by rw [h]
theorem txt_00 (o : Int) : txt o 0 0 = nm o := by simp [txt, prt]
theorem txt_10 (o k : Int) : txt o k 0 = nm o ++ prt 58 k := by simp [txt, prt]
theorem txt_01 (o v : Int) : txt o 0 v = nm o ++ prt 61 v := by
  have : prt 58 0 = [] := rfl
  rw [txt, this, List.append_nil]

set_option maxHeartbeats 4000000 in
theorem text_00 (F : Interp) {j : Nat} (h : Rt ((j : Int) + 1) 0 0) (w : World) (hF : F.told.answers w.tape) (hA : As w) :
    Calls Tryf.prog 13 #[.agg #[.int .i64 ((j : Int) + 1), .int .i64 0, .int .i64 0]] w fun e w' => e = .returned (.tuple #[.string ⟨(txt ((j : Int) + 1) 0 0).toArray⟩, .int .i64 0]) ∧ Below w.heap.size w w' := by
  have hj : (j : Int) ≤ 5 := by have := h.w6; omega
  have hj0 : (0 : Int) ≤ (j : Int) := by omega
  have hj1 : (j : Int) < 6 := by omega
  have hwr : IntKind.i64.wrap (j : Int) = (j : Int) := IntWalk.i64_in _ (by omega)
  have l1 := nm_len ((j : Int) + 1)
  have b0 : Hid (Below w.heap.size w ((w.alloc (.cells #[.int .i64 ((j : Int) + 1), .int .i64 0, .int .i64 0] 23)).alloc (.cells #[.int .i64 ((j : Int) + 1), .int .i64 0, .int .i64 0] 23))) := (((Gr.refl w).alloc _ _).alloc _ _).below
  have A0 : Hid (As (((w.alloc (.cells #[.int .i64 ((j : Int) + 1), .int .i64 0, .int .i64 0] 23)).alloc (.cells #[.int .i64 ((j : Int) + 1), .int .i64 0, .int .i64 0] 23)).drew)) := As.later hA (((((Gr.refl w).alloc _ _).alloc _ _).drew).below)
  have c0 : ((w.alloc (.cells #[.int .i64 ((j : Int) + 1), .int .i64 0, .int .i64 0] 23)).alloc (.cells #[.int .i64 ((j : Int) + 1), .int .i64 0, .int .i64 0] 23)).cell? ⟨w.heap.size, 0, none⟩ = some (.int .i64 ((j : Int) + 1)) := by simp
  have c1 : ((w.alloc (.cells #[.int .i64 ((j : Int) + 1), .int .i64 0, .int .i64 0] 23)).alloc (.cells #[.int .i64 ((j : Int) + 1), .int .i64 0, .int .i64 0] 23)).cell? ⟨w.heap.size, 1, none⟩ = some (.int .i64 0) := by simp
  have c2 : ((w.alloc (.cells #[.int .i64 ((j : Int) + 1), .int .i64 0, .int .i64 0] 23)).alloc (.cells #[.int .i64 ((j : Int) + 1), .int .i64 0, .int .i64 0] 23)).cell? ⟨w.heap.size, 2, none⟩ = some (.int .i64 0) := by simp
  have T0 : Hid (((w.alloc (.cells #[.int .i64 ((j : Int) + 1), .int .i64 0, .int .i64 0] 23)).alloc (.cells #[.int .i64 ((j : Int) + 1), .int .i64 0, .int .i64 0] 23)).tape = w.tape) := rfl
  clear hA l1
  go_enter Tryf.func13, Tryf.ntmps13
  go_wp2_with (go_at_call 27; refine (RfRight_is h _).mono ?_; rintro e w' ⟨rfl, rfl⟩)
  generalize hWW : ((w.alloc (.cells #[.int .i64 ((j : Int) + 1), .int .i64 0, .int .i64 0] 23)).alloc (.cells #[.int .i64 ((j : Int) + 1), .int .i64 0, .int .i64 0] 23)) = W at *
  clear hWW
  generalize hn : w.heap.size = n at *
  have HN : Hid _ := hn
  clear hn
  go_region_with (go_at_call 10; refine (fields_any _ A0.out).mono ?_; rintro e w1 ⟨rfl, hb, hz, hc⟩; have d0 := below_cell hb c0; have d1 := below_cell hb c1; have d2 := below_cell hb c2; have hcj : w1.cell? ⟨W.heap.size, j, none⟩ = some (.string ⟨(nm ((j : Int) + 1)).toArray⟩) := hc j (by omega); clear hc)
  all_goals
    have B1 : Hid (Below n w w1) := b0.out.trans ((show Below W.heap.size W w1 from (Below.refl _ _).drew.trans hb).mono (HN.out ▸ b0.out.size))
    have hz1 := World.block_lt_of_cell? _ _ d0
    clear hb hz c0 c1 c2
    have hFw : F.told.answers w1.tape := B1.out.tape ▸ hF
    clear hF
    go_wp2
    go_ret2
    refine ⟨ret_strs' (by rw [txt_00]), ?_⟩
    rw [HN.out]
    exact B1.out

set_option maxHeartbeats 4000000 in
theorem text_01 (F : Interp) {j : Nat} {v : Int} (h : Rt ((j : Int) + 1) 0 v) (hv : ¬ v = 0) (w : World) (hF : F.told.answers w.tape) (hA : As w) :
    Calls Tryf.prog 13 #[.agg #[.int .i64 ((j : Int) + 1), .int .i64 0, .int .i64 v]] w fun e w' => e = .returned (.tuple #[.string ⟨(txt ((j : Int) + 1) 0 v).toArray⟩, .int .i64 0]) ∧ Below w.heap.size w w' := by
  have hj : (j : Int) ≤ 5 := by have := h.w6; omega
  have hj0 : (0 : Int) ≤ (j : Int) := by omega
  have hj1 : (j : Int) < 6 := by omega
  have hwr : IntKind.i64.wrap (j : Int) = (j : Int) := IntWalk.i64_in _ (by omega)
  have l1 := nm_len ((j : Int) + 1)
  have l3 := prt_len 61 v h.v0 h.v1
  have t2 := spr_told F 61 v (by have := h.v0; omega) h.v1
  unfold rd at t2
  have m0 : ¬ 9223372036854775807 < (nm ((j : Int) + 1)).length + (prt 61 v).length := by omega
  have b0 : Hid (Below w.heap.size w ((w.alloc (.cells #[.int .i64 ((j : Int) + 1), .int .i64 0, .int .i64 v] 23)).alloc (.cells #[.int .i64 ((j : Int) + 1), .int .i64 0, .int .i64 v] 23))) := (((Gr.refl w).alloc _ _).alloc _ _).below
  have A0 : Hid (As (((w.alloc (.cells #[.int .i64 ((j : Int) + 1), .int .i64 0, .int .i64 v] 23)).alloc (.cells #[.int .i64 ((j : Int) + 1), .int .i64 0, .int .i64 v] 23)).drew)) := As.later hA (((((Gr.refl w).alloc _ _).alloc _ _).drew).below)
  have c0 : ((w.alloc (.cells #[.int .i64 ((j : Int) + 1), .int .i64 0, .int .i64 v] 23)).alloc (.cells #[.int .i64 ((j : Int) + 1), .int .i64 0, .int .i64 v] 23)).cell? ⟨w.heap.size, 0, none⟩ = some (.int .i64 ((j : Int) + 1)) := by simp
  have c1 : ((w.alloc (.cells #[.int .i64 ((j : Int) + 1), .int .i64 0, .int .i64 v] 23)).alloc (.cells #[.int .i64 ((j : Int) + 1), .int .i64 0, .int .i64 v] 23)).cell? ⟨w.heap.size, 1, none⟩ = some (.int .i64 0) := by simp
  have c2 : ((w.alloc (.cells #[.int .i64 ((j : Int) + 1), .int .i64 0, .int .i64 v] 23)).alloc (.cells #[.int .i64 ((j : Int) + 1), .int .i64 0, .int .i64 v] 23)).cell? ⟨w.heap.size, 2, none⟩ = some (.int .i64 v) := by simp
  have T0 : Hid (((w.alloc (.cells #[.int .i64 ((j : Int) + 1), .int .i64 0, .int .i64 v] 23)).alloc (.cells #[.int .i64 ((j : Int) + 1), .int .i64 0, .int .i64 v] 23)).tape = w.tape) := rfl
  clear hA l1 l3
  go_enter Tryf.func13, Tryf.ntmps13
  go_wp2_with (go_at_call 27; refine (RfRight_is h _).mono ?_; rintro e w' ⟨rfl, rfl⟩)
  generalize hWW : ((w.alloc (.cells #[.int .i64 ((j : Int) + 1), .int .i64 0, .int .i64 v] 23)).alloc (.cells #[.int .i64 ((j : Int) + 1), .int .i64 0, .int .i64 v] 23)) = W at *
  clear hWW
  generalize hn : w.heap.size = n at *
  have HN : Hid _ := hn
  clear hn
  go_region_with (go_at_call 10; refine (fields_any _ A0.out).mono ?_; rintro e w1 ⟨rfl, hb, hz, hc⟩; have d0 := below_cell hb c0; have d1 := below_cell hb c1; have d2 := below_cell hb c2; have hcj : w1.cell? ⟨W.heap.size, j, none⟩ = some (.string ⟨(nm ((j : Int) + 1)).toArray⟩) := hc j (by omega); clear hc)
  all_goals
    have B1 : Hid (Below n w w1) := b0.out.trans ((show Below W.heap.size W w1 from (Below.refl _ _).drew.trans hb).mono (HN.out ▸ b0.out.size))
    have hz1 := World.block_lt_of_cell? _ _ d0
    clear hb hz c0 c1 c2
    have hFw : F.told.answers w1.tape := B1.out.tape ▸ hF
    clear hF
    have hF' := answers_open hFw
    have s1 := spr_call
    have s2 := spr_guard
    have s3 := spr_int
    have s4 := spr_str
    go_wp2
    go_ret2
    refine ⟨ret_strs' (by rw [str_app, txt_01]), ?_⟩
    rw [HN.out]
    exact ((B1.out.alloc (HN.out ▸ B1.out.size) _).drew)

set_option maxHeartbeats 4000000 in
theorem text_10 (F : Interp) {j : Nat} {k : Int} (h : Rt ((j : Int) + 1) k 0) (hk : ¬ k = 0) (w : World) (hF : F.told.answers w.tape) (hA : As w) :
    Calls Tryf.prog 13 #[.agg #[.int .i64 ((j : Int) + 1), .int .i64 k, .int .i64 0]] w fun e w' => e = .returned (.tuple #[.string ⟨(txt ((j : Int) + 1) k 0).toArray⟩, .int .i64 0]) ∧ Below w.heap.size w w' := by
  have hj : (j : Int) ≤ 5 := by have := h.w6; omega
  have hj0 : (0 : Int) ≤ (j : Int) := by omega
  have hj1 : (j : Int) < 6 := by omega
  have hwr : IntKind.i64.wrap (j : Int) = (j : Int) := IntWalk.i64_in _ (by omega)
  have l1 := nm_len ((j : Int) + 1)
  have l2 := prt_len 58 k h.k0 (by have := h.k1; omega)
  have t1 := spr_told F 58 k (by have := h.k0; omega) (by have := h.k1; omega)
  unfold rd at t1
  have m0 : ¬ 9223372036854775807 < (nm ((j : Int) + 1)).length + (prt 58 k).length := by omega
  have b0 : Hid (Below w.heap.size w ((w.alloc (.cells #[.int .i64 ((j : Int) + 1), .int .i64 k, .int .i64 0] 23)).alloc (.cells #[.int .i64 ((j : Int) + 1), .int .i64 k, .int .i64 0] 23))) := (((Gr.refl w).alloc _ _).alloc _ _).below
  have A0 : Hid (As (((w.alloc (.cells #[.int .i64 ((j : Int) + 1), .int .i64 k, .int .i64 0] 23)).alloc (.cells #[.int .i64 ((j : Int) + 1), .int .i64 k, .int .i64 0] 23)).drew)) := As.later hA (((((Gr.refl w).alloc _ _).alloc _ _).drew).below)
  have c0 : ((w.alloc (.cells #[.int .i64 ((j : Int) + 1), .int .i64 k, .int .i64 0] 23)).alloc (.cells #[.int .i64 ((j : Int) + 1), .int .i64 k, .int .i64 0] 23)).cell? ⟨w.heap.size, 0, none⟩ = some (.int .i64 ((j : Int) + 1)) := by simp
  have c1 : ((w.alloc (.cells #[.int .i64 ((j : Int) + 1), .int .i64 k, .int .i64 0] 23)).alloc (.cells #[.int .i64 ((j : Int) + 1), .int .i64 k, .int .i64 0] 23)).cell? ⟨w.heap.size, 1, none⟩ = some (.int .i64 k) := by simp
  have c2 : ((w.alloc (.cells #[.int .i64 ((j : Int) + 1), .int .i64 k, .int .i64 0] 23)).alloc (.cells #[.int .i64 ((j : Int) + 1), .int .i64 k, .int .i64 0] 23)).cell? ⟨w.heap.size, 2, none⟩ = some (.int .i64 0) := by simp
  have T0 : Hid (((w.alloc (.cells #[.int .i64 ((j : Int) + 1), .int .i64 k, .int .i64 0] 23)).alloc (.cells #[.int .i64 ((j : Int) + 1), .int .i64 k, .int .i64 0] 23)).tape = w.tape) := rfl
  clear hA l1 l2
  go_enter Tryf.func13, Tryf.ntmps13
  go_wp2_with (go_at_call 27; refine (RfRight_is h _).mono ?_; rintro e w' ⟨rfl, rfl⟩)
  generalize hWW : ((w.alloc (.cells #[.int .i64 ((j : Int) + 1), .int .i64 k, .int .i64 0] 23)).alloc (.cells #[.int .i64 ((j : Int) + 1), .int .i64 k, .int .i64 0] 23)) = W at *
  clear hWW
  generalize hn : w.heap.size = n at *
  have HN : Hid _ := hn
  clear hn
  go_region_with (go_at_call 10; refine (fields_any _ A0.out).mono ?_; rintro e w1 ⟨rfl, hb, hz, hc⟩; have d0 := below_cell hb c0; have d1 := below_cell hb c1; have d2 := below_cell hb c2; have hcj : w1.cell? ⟨W.heap.size, j, none⟩ = some (.string ⟨(nm ((j : Int) + 1)).toArray⟩) := hc j (by omega); clear hc)
  all_goals
    have B1 : Hid (Below n w w1) := b0.out.trans ((show Below W.heap.size W w1 from (Below.refl _ _).drew.trans hb).mono (HN.out ▸ b0.out.size))
    have hz1 := World.block_lt_of_cell? _ _ d0
    clear hb hz c0 c1 c2
    have hFw : F.told.answers w1.tape := B1.out.tape ▸ hF
    clear hF
    have hF' := answers_open hFw
    have s1 := spr_call
    have s2 := spr_guard
    have s3 := spr_int
    have s4 := spr_str
    go_wp2
    go_ret2
    refine ⟨ret_strs' (by rw [str_app, txt_10]), ?_⟩
    rw [HN.out]
    exact ((B1.out.alloc (HN.out ▸ B1.out.size) _).drew)

set_option maxHeartbeats 4000000 in
theorem text_11 (F : Interp) {j : Nat} {k : Int} {v : Int} (h : Rt ((j : Int) + 1) k v) (hk : ¬ k = 0) (hv : ¬ v = 0) (w : World) (hF : F.told.answers w.tape) (hA : As w) :
    Calls Tryf.prog 13 #[.agg #[.int .i64 ((j : Int) + 1), .int .i64 k, .int .i64 v]] w fun e w' => e = .returned (.tuple #[.string ⟨(txt ((j : Int) + 1) k v).toArray⟩, .int .i64 0]) ∧ Below w.heap.size w w' := by
  have hj : (j : Int) ≤ 5 := by have := h.w6; omega
  have hj0 : (0 : Int) ≤ (j : Int) := by omega
  have hj1 : (j : Int) < 6 := by omega
  have hwr : IntKind.i64.wrap (j : Int) = (j : Int) := IntWalk.i64_in _ (by omega)
  have l1 := nm_len ((j : Int) + 1)
  have l2 := prt_len 58 k h.k0 (by have := h.k1; omega)
  have t1 := spr_told F 58 k (by have := h.k0; omega) (by have := h.k1; omega)
  unfold rd at t1
  have l3 := prt_len 61 v h.v0 h.v1
  have t2 := spr_told F 61 v (by have := h.v0; omega) h.v1
  unfold rd at t2
  have m0 : ¬ 9223372036854775807 < (nm ((j : Int) + 1)).length + (prt 58 k).length := by omega
  have m1 : ¬ 9223372036854775807 < (nm ((j : Int) + 1)).length + (prt 58 k).length + (prt 61 v).length := by omega
  have b0 : Hid (Below w.heap.size w ((w.alloc (.cells #[.int .i64 ((j : Int) + 1), .int .i64 k, .int .i64 v] 23)).alloc (.cells #[.int .i64 ((j : Int) + 1), .int .i64 k, .int .i64 v] 23))) := (((Gr.refl w).alloc _ _).alloc _ _).below
  have A0 : Hid (As (((w.alloc (.cells #[.int .i64 ((j : Int) + 1), .int .i64 k, .int .i64 v] 23)).alloc (.cells #[.int .i64 ((j : Int) + 1), .int .i64 k, .int .i64 v] 23)).drew)) := As.later hA (((((Gr.refl w).alloc _ _).alloc _ _).drew).below)
  have c0 : ((w.alloc (.cells #[.int .i64 ((j : Int) + 1), .int .i64 k, .int .i64 v] 23)).alloc (.cells #[.int .i64 ((j : Int) + 1), .int .i64 k, .int .i64 v] 23)).cell? ⟨w.heap.size, 0, none⟩ = some (.int .i64 ((j : Int) + 1)) := by simp
  have c1 : ((w.alloc (.cells #[.int .i64 ((j : Int) + 1), .int .i64 k, .int .i64 v] 23)).alloc (.cells #[.int .i64 ((j : Int) + 1), .int .i64 k, .int .i64 v] 23)).cell? ⟨w.heap.size, 1, none⟩ = some (.int .i64 k) := by simp
  have c2 : ((w.alloc (.cells #[.int .i64 ((j : Int) + 1), .int .i64 k, .int .i64 v] 23)).alloc (.cells #[.int .i64 ((j : Int) + 1), .int .i64 k, .int .i64 v] 23)).cell? ⟨w.heap.size, 2, none⟩ = some (.int .i64 v) := by simp
  have T0 : Hid (((w.alloc (.cells #[.int .i64 ((j : Int) + 1), .int .i64 k, .int .i64 v] 23)).alloc (.cells #[.int .i64 ((j : Int) + 1), .int .i64 k, .int .i64 v] 23)).tape = w.tape) := rfl
  clear hA l1 l2 l3
  go_enter Tryf.func13, Tryf.ntmps13
  go_wp2_with (go_at_call 27; refine (RfRight_is h _).mono ?_; rintro e w' ⟨rfl, rfl⟩)
  generalize hWW : ((w.alloc (.cells #[.int .i64 ((j : Int) + 1), .int .i64 k, .int .i64 v] 23)).alloc (.cells #[.int .i64 ((j : Int) + 1), .int .i64 k, .int .i64 v] 23)) = W at *
  clear hWW
  generalize hn : w.heap.size = n at *
  have HN : Hid _ := hn
  clear hn
  go_region_with (go_at_call 10; refine (fields_any _ A0.out).mono ?_; rintro e w1 ⟨rfl, hb, hz, hc⟩; have d0 := below_cell hb c0; have d1 := below_cell hb c1; have d2 := below_cell hb c2; have hcj : w1.cell? ⟨W.heap.size, j, none⟩ = some (.string ⟨(nm ((j : Int) + 1)).toArray⟩) := hc j (by omega); clear hc)
  all_goals
    have B1 : Hid (Below n w w1) := b0.out.trans ((show Below W.heap.size W w1 from (Below.refl _ _).drew.trans hb).mono (HN.out ▸ b0.out.size))
    have hz1 := World.block_lt_of_cell? _ _ d0
    clear hb hz c0 c1 c2
    have hFw : F.told.answers w1.tape := B1.out.tape ▸ hF
    clear hF
    have hF' := answers_open hFw
    have s1 := spr_call
    have s2 := spr_guard
    have s3 := spr_int
    have s4 := spr_str
    go_wp2
    go_ret2
    refine ⟨ret_strs' (by rw [str_app, str_app]; rfl), ?_⟩
    rw [HN.out]
    exact ((((B1.out.alloc (HN.out ▸ B1.out.size) _).alloc (by simp; omega) _).drew).drew)
end Go.Proofs.YtdohomdhgkhebabFmt
