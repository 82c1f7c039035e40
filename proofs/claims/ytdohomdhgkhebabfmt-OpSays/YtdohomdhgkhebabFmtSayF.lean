/- Package op's Say, by its contract. -/
import Derived.Test.YtdohomdhgkhebabFmtOpF
import Derived.Test.YtdohomdhgkhebabFmtPart
import Derived.Test.YtdohomdhgkhebabFmtEnvC
import Derived.Deep.RegionHeld3
namespace Go.Proofs.YtdohomdhgkhebabFmt
open Go.RowKit

theorem Say_no {c v : Int} (h : ¬ Ft c v) (w : World) :
    Calls Tryf.prog 8 #[.agg #[.int .i64 c, .int .i64 v]] w fun e w' => e = .returned (.string ⟨#[63]⟩) ∧ Below w.heap.size w w' := by
  go_enter Tryf.func8, Tryf.ntmps8
  go_wp2_with (go_at_call 19; refine (Fits_isnt h _).mono ?_; rintro e w' ⟨rfl, rfl⟩)
  go_ret
  exact ⟨rfl, (((Gr.refl w).alloc _ _).alloc _ _).below⟩

/-- What holds in every world that the last line passes through. -/
theorem say_keep {W w1 w2 : World} {n : Nat} {g i : Nat} {c v : Int} {s : Value} (hb : Below w1.heap.size w1 w2)
    (h : w1.cell? ⟨n, 0, none⟩ = some (.int .i64 c) ∧ w1.cell? ⟨n, 1, none⟩ = some (.int .i64 v) ∧ w1.cell? ⟨g, i, none⟩ = some s ∧ Pw w1 ∧ Below W.heap.size W w1) :
    w2.cell? ⟨n, 0, none⟩ = some (.int .i64 c) ∧ w2.cell? ⟨n, 1, none⟩ = some (.int .i64 v) ∧ w2.cell? ⟨g, i, none⟩ = some s ∧ Pw w2 ∧ Below W.heap.size W w2 := by
  obtain ⟨h0, h1, h3, h4, h5⟩ := h
  have c : ∀ {a : Addr} {u : Value}, w1.cell? a = some u → w2.cell? a = some u := fun {a u} hu => by
    rw [hb.cell (World.block_lt_of_cell? w1 _ hu)]; exact hu
  exact ⟨c h0, c h1, c h3, h4.later hb, h5.trans (hb.mono h5.size)⟩
theorem say_pw {W w1 : World} {n : Nat} {g i : Nat} {c v : Int} {s : Value}
    (h : w1.cell? ⟨n, 0, none⟩ = some (.int .i64 c) ∧ w1.cell? ⟨n, 1, none⟩ = some (.int .i64 v) ∧ w1.cell? ⟨g, i, none⟩ = some s ∧ Pw w1 ∧ Below W.heap.size W w1) : Pw w1 := h.2.2.2.1
theorem say_bl {W w1 : World} {n : Nat} {g i : Nat} {c v : Int} {s : Value}
    (h : w1.cell? ⟨n, 0, none⟩ = some (.int .i64 c) ∧ w1.cell? ⟨n, 1, none⟩ = some (.int .i64 v) ∧ w1.cell? ⟨g, i, none⟩ = some s ∧ Pw w1 ∧ Below W.heap.size W w1) : Below W.heap.size W w1 := h.2.2.2.2

set_option maxHeartbeats 2000000 in
theorem Say_yes {c v : Nat} (h : Ft c v) (w : World) (hP : Pw w) (hW : Cd w) :
    Calls Tryf.prog 8 #[.agg #[.int .i64 c, .int .i64 v]] w fun e w' => e = .returned (.string ⟨(say c v).toArray⟩) ∧ Below w.heap.size w w' := by
  obtain ⟨h1, h2, h3, h4, h5⟩ := id h
  clear h5
  have g0 : Gr w ((w.alloc (.cells #[.int .i64 c, .int .i64 v] 34)).alloc (.cells #[.int .i64 c, .int .i64 v] 34)) := ((Gr.refl w).alloc _ _).alloc _ _
  have G : Hid _ := g0.below
  have HP : Hid _ := hP.later g0.below
  have cw := hW.later g0.below c (by omega)
  have c0 : ((w.alloc (.cells #[.int .i64 c, .int .i64 v] 34)).alloc (.cells #[.int .i64 c, .int .i64 v] 34)).cell? ⟨w.heap.size, 0, none⟩ = some (.int .i64 c) := by simp
  have c1 : ((w.alloc (.cells #[.int .i64 c, .int .i64 v] 34)).alloc (.cells #[.int .i64 c, .int .i64 v] 34)).cell? ⟨w.heap.size, 1, none⟩ = some (.int .i64 v) := by simp
  have l1 := cnm_len c
  have l3 := prt_len 32 v h3 h4
  have i1 : (0 : Int) ≤ (c : Int) := by omega
  have i2 : (c : Int) < 6 := by omega
  have m1 : ¬ 9223372036854775807 < (cnm c).length + (prt 32 v).length := by omega
  clear g0 hP hW l1 l3
  go_enter Tryf.func8, Tryf.ntmps8
  go_wp2_with (go_at_call 19; refine (Fits_is h _).mono ?_; rintro e w' ⟨rfl, rfl⟩)
  generalize hWW : (w.alloc (.cells #[.int .i64 c, .int .i64 v] 34)).alloc (.cells #[.int .i64 c, .int .i64 v] 34) = W at *
  clear hWW
  generalize hn : w.heap.size = n at *
  have HN : Hid _ := hn
  clear hn
  go_region_held3 (fun w' => w'.cell? ⟨n, 0, none⟩ = some (.int .i64 c) ∧ w'.cell? ⟨n, 1, none⟩ = some (.int .i64 v) ∧ w'.cell? ⟨0, c, none⟩ = some (.string ⟨(cnm c).toArray⟩) ∧ Pw w' ∧ Below W.heap.size W w')
    (first | assumption | exact ⟨c0, c1, cw, HP.out, (Below.refl _ _).drew⟩ | exact say_keep (by assumption) (by assumption))
    (first | (go_at_call 20; refine (part_any _ _ (by omega) (by omega) _ (say_pw (by assumption))).mono ?_; rintro e w' ⟨rfl, hb⟩))
  have HB : Hid _ := say_bl (by assumption)
  go_wp2
  go_ret
  refine ⟨ret_str (by rw [str_app]; rfl), ?_⟩
  rw [HN.out]
  exact G.out.trans (HB.out.mono (HN.out ▸ G.out.size))
end Go.Proofs.YtdohomdhgkhebabFmt
