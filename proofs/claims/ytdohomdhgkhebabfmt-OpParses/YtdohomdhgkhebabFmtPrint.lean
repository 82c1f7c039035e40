/- Package op's Print, by its contract. -/
import Derived.Test.YtdohomdhgkhebabFmtOpR
import Derived.Test.YtdohomdhgkhebabFmtPart
import Derived.Test.YtdohomdhgkhebabFmtEnvW
import Derived.Deep.RegionHeld3
namespace Go.Proofs.YtdohomdhgkhebabFmt
open Go.RowKit

theorem Print_no {o k v : Int} (h : ¬ Rt o k v) (w : World) :
    Calls Tryf.prog 17 #[.agg #[.int .i64 o, .int .i64 k, .int .i64 v]] w fun e w' => e = .returned (.tuple #[.string ⟨#[]⟩, .iface 24 (.int .i64 1)]) ∧ Below w.heap.size w w' := by
  go_enter Tryf.func17, Tryf.ntmps17
  go_wp2_with (go_at_call 30; refine (Right_isnt h _).mono ?_; rintro e w' ⟨rfl, rfl⟩)
  go_ret2
  exact ⟨rfl, (((Gr.refl w).alloc _ _).alloc _ _).below⟩

/-- What holds in every world that the last line passes through. -/
theorem print_keep {W w1 w2 : World} {n : Nat} {g i : Nat} {o k v : Int} {s : Value} (hb : Below w1.heap.size w1 w2)
    (h : w1.cell? ⟨n, 0, none⟩ = some (.int .i64 o) ∧ w1.cell? ⟨n, 1, none⟩ = some (.int .i64 k) ∧ w1.cell? ⟨n, 2, none⟩ = some (.int .i64 v) ∧ w1.cell? ⟨g, i, none⟩ = some s ∧ Pw w1 ∧ Below W.heap.size W w1) :
    w2.cell? ⟨n, 0, none⟩ = some (.int .i64 o) ∧ w2.cell? ⟨n, 1, none⟩ = some (.int .i64 k) ∧ w2.cell? ⟨n, 2, none⟩ = some (.int .i64 v) ∧ w2.cell? ⟨g, i, none⟩ = some s ∧ Pw w2 ∧ Below W.heap.size W w2 := by
  obtain ⟨h0, h1, h2, h3, h4, h5⟩ := h
  have c : ∀ {a : Addr} {u : Value}, w1.cell? a = some u → w2.cell? a = some u := fun {a u} hu => by
    rw [hb.cell (World.block_lt_of_cell? w1 _ hu)]; exact hu
  exact ⟨c h0, c h1, c h2, c h3, h4.later hb, h5.trans (hb.mono h5.size)⟩
theorem print_pw {W w1 : World} {n : Nat} {g i : Nat} {o k v : Int} {s : Value}
    (h : w1.cell? ⟨n, 0, none⟩ = some (.int .i64 o) ∧ w1.cell? ⟨n, 1, none⟩ = some (.int .i64 k) ∧ w1.cell? ⟨n, 2, none⟩ = some (.int .i64 v) ∧ w1.cell? ⟨g, i, none⟩ = some s ∧ Pw w1 ∧ Below W.heap.size W w1) : Pw w1 := h.2.2.2.2.1

theorem print_bl {W w1 : World} {n : Nat} {g i : Nat} {o k v : Int} {s : Value}
    (h : w1.cell? ⟨n, 0, none⟩ = some (.int .i64 o) ∧ w1.cell? ⟨n, 1, none⟩ = some (.int .i64 k) ∧ w1.cell? ⟨n, 2, none⟩ = some (.int .i64 v) ∧ w1.cell? ⟨g, i, none⟩ = some s ∧ Pw w1 ∧ Below W.heap.size W w1) : Below W.heap.size W w1 := h.2.2.2.2.2
theorem ret_strs {a b : ByteArray} {v : Value} (h : a = b) : Ending.returned (.tuple #[.string a, v]) = .returned (.tuple #[.string b, v]) := by rw [h]

set_option maxHeartbeats 2000000 in
theorem Print_yes {o k v : Nat} (h : Rt o k v) (w : World) (hP : Pw w) (hW : Wh w) :
    Calls Tryf.prog 17 #[.agg #[.int .i64 o, .int .i64 k, .int .i64 v]] w fun e w' => e = .returned (.tuple #[.string ⟨(txt o k v).toArray⟩, .nilIface]) ∧ Below w.heap.size w w' := by
  obtain ⟨h1, h2, h3, h4, h5, h6⟩ := id h
  have g0 : Gr w ((w.alloc (.cells #[.int .i64 o, .int .i64 k, .int .i64 v] 23)).alloc (.cells #[.int .i64 o, .int .i64 k, .int .i64 v] 23)) := ((Gr.refl w).alloc _ _).alloc _ _
  have G : Hid _ := g0.below
  have HP : Hid _ := hP.later g0.below
  have cw := hW.later g0.below o (by omega)
  have c0 : ((w.alloc (.cells #[.int .i64 o, .int .i64 k, .int .i64 v] 23)).alloc (.cells #[.int .i64 o, .int .i64 k, .int .i64 v] 23)).cell? ⟨w.heap.size, 0, none⟩ = some (.int .i64 o) := by simp
  have c1 : ((w.alloc (.cells #[.int .i64 o, .int .i64 k, .int .i64 v] 23)).alloc (.cells #[.int .i64 o, .int .i64 k, .int .i64 v] 23)).cell? ⟨w.heap.size, 1, none⟩ = some (.int .i64 k) := by simp
  have c2 : ((w.alloc (.cells #[.int .i64 o, .int .i64 k, .int .i64 v] 23)).alloc (.cells #[.int .i64 o, .int .i64 k, .int .i64 v] 23)).cell? ⟨w.heap.size, 2, none⟩ = some (.int .i64 v) := by simp
  have l1 := nm_len o
  have l2 := prt_len 58 k h3 (by omega)
  have l3 := prt_len 61 v h5 h6
  have i1 : (0 : Int) ≤ (o : Int) := by omega
  have i2 : (o : Int) < 7 := by omega
  have m1 : ¬ 9223372036854775807 < (nm o).length + (prt 58 k).length := by omega
  have m2 : ¬ 9223372036854775807 < (nm o).length + (prt 58 k).length + (prt 61 v).length := by omega
  clear g0 hP hW l1 l2 l3
  go_enter Tryf.func17, Tryf.ntmps17
  go_wp2_with (go_at_call 30; refine (Right_is h _).mono ?_; rintro e w' ⟨rfl, rfl⟩)
  generalize hWW : (w.alloc (.cells #[.int .i64 o, .int .i64 k, .int .i64 v] 23)).alloc (.cells #[.int .i64 o, .int .i64 k, .int .i64 v] 23) = W at *
  clear hWW
  generalize hn : w.heap.size = n at *
  have HN : Hid _ := hn
  clear hn
  go_region_held3 (fun w' => w'.cell? ⟨n, 0, none⟩ = some (.int .i64 o) ∧ w'.cell? ⟨n, 1, none⟩ = some (.int .i64 k) ∧ w'.cell? ⟨n, 2, none⟩ = some (.int .i64 v) ∧ w'.cell? ⟨2, o, none⟩ = some (.string ⟨(nm o).toArray⟩) ∧ Pw w' ∧ Below W.heap.size W w')
    (first | assumption | exact ⟨c0, c1, c2, cw, HP.out, (Below.refl _ _).drew⟩ | exact print_keep (by assumption) (by assumption))
    (first | (go_at_call 20; refine (part_any _ _ (by omega) (by omega) _ (print_pw (by assumption))).mono ?_; rintro e w' ⟨rfl, hb⟩))
  have HB : Hid _ := print_bl (by assumption)
  go_wp2
  go_ret2
  refine ⟨ret_strs (by rw [str_app, str_app]; rfl), ?_⟩
  rw [HN.out]
  exact G.out.trans (HB.out.mono (HN.out ▸ G.out.size))
end Go.Proofs.YtdohomdhgkhebabFmt
