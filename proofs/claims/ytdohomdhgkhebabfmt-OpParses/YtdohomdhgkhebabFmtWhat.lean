/- Package op's what, by its contract. -/
import Derived.Test.YtdohomdhgkhebabFmtRows
import Derived.Test.YtdohomdhgkhebabFmtEnvW
namespace Go.Proofs.YtdohomdhgkhebabFmt
open Go.RowKit

theorem ba_of {s : ByteArray} {l : List UInt8} (h : s.data.toList = l) : s = ⟨l.toArray⟩ := by
  cases s; simp at h; simp [← h]

theorem whats_at0 (w : World) : (Instr.index 59 (.agg #[.string ⟨#[]⟩, .string ⟨#[112, 117, 116]⟩, .string ⟨#[116, 97, 107, 101]⟩, .string ⟨#[102, 114, 111, 110, 116]⟩, .string ⟨#[98, 97, 99, 107]⟩, .string ⟨#[112, 101, 101, 107]⟩, .string ⟨#[99, 111, 117, 110, 116]⟩]) (.int .i64 0)).run Tryf.prog w = .ok (.string ⟨#[]⟩) w := by kernel_rfl
theorem whats_at1 (w : World) : (Instr.index 59 (.agg #[.string ⟨#[]⟩, .string ⟨#[112, 117, 116]⟩, .string ⟨#[116, 97, 107, 101]⟩, .string ⟨#[102, 114, 111, 110, 116]⟩, .string ⟨#[98, 97, 99, 107]⟩, .string ⟨#[112, 101, 101, 107]⟩, .string ⟨#[99, 111, 117, 110, 116]⟩]) (.int .i64 1)).run Tryf.prog w = .ok (.string ⟨#[112, 117, 116]⟩) w := by kernel_rfl
theorem whats_at2 (w : World) : (Instr.index 59 (.agg #[.string ⟨#[]⟩, .string ⟨#[112, 117, 116]⟩, .string ⟨#[116, 97, 107, 101]⟩, .string ⟨#[102, 114, 111, 110, 116]⟩, .string ⟨#[98, 97, 99, 107]⟩, .string ⟨#[112, 101, 101, 107]⟩, .string ⟨#[99, 111, 117, 110, 116]⟩]) (.int .i64 2)).run Tryf.prog w = .ok (.string ⟨#[116, 97, 107, 101]⟩) w := by kernel_rfl
theorem whats_at3 (w : World) : (Instr.index 59 (.agg #[.string ⟨#[]⟩, .string ⟨#[112, 117, 116]⟩, .string ⟨#[116, 97, 107, 101]⟩, .string ⟨#[102, 114, 111, 110, 116]⟩, .string ⟨#[98, 97, 99, 107]⟩, .string ⟨#[112, 101, 101, 107]⟩, .string ⟨#[99, 111, 117, 110, 116]⟩]) (.int .i64 3)).run Tryf.prog w = .ok (.string ⟨#[102, 114, 111, 110, 116]⟩) w := by kernel_rfl
theorem whats_at4 (w : World) : (Instr.index 59 (.agg #[.string ⟨#[]⟩, .string ⟨#[112, 117, 116]⟩, .string ⟨#[116, 97, 107, 101]⟩, .string ⟨#[102, 114, 111, 110, 116]⟩, .string ⟨#[98, 97, 99, 107]⟩, .string ⟨#[112, 101, 101, 107]⟩, .string ⟨#[99, 111, 117, 110, 116]⟩]) (.int .i64 4)).run Tryf.prog w = .ok (.string ⟨#[98, 97, 99, 107]⟩) w := by kernel_rfl
theorem whats_at5 (w : World) : (Instr.index 59 (.agg #[.string ⟨#[]⟩, .string ⟨#[112, 117, 116]⟩, .string ⟨#[116, 97, 107, 101]⟩, .string ⟨#[102, 114, 111, 110, 116]⟩, .string ⟨#[98, 97, 99, 107]⟩, .string ⟨#[112, 101, 101, 107]⟩, .string ⟨#[99, 111, 117, 110, 116]⟩]) (.int .i64 5)).run Tryf.prog w = .ok (.string ⟨#[112, 101, 101, 107]⟩) w := by kernel_rfl
theorem whats_at6 (w : World) : (Instr.index 59 (.agg #[.string ⟨#[]⟩, .string ⟨#[112, 117, 116]⟩, .string ⟨#[116, 97, 107, 101]⟩, .string ⟨#[102, 114, 111, 110, 116]⟩, .string ⟨#[98, 97, 99, 107]⟩, .string ⟨#[112, 101, 101, 107]⟩, .string ⟨#[99, 111, 117, 110, 116]⟩]) (.int .i64 6)).run Tryf.prog w = .ok (.string ⟨#[99, 111, 117, 110, 116]⟩) w := by kernel_rfl

set_option maxHeartbeats 1000000 in
theorem what_0 (w : World) (hW : Wh w) :
    Calls Tryf.prog 15 #[.string ⟨#[]⟩] w fun e w' => e = .returned (.int .i64 0) ∧ w' = w := by
  have h0 : w.cell? ⟨2, 0, none⟩ = some (.string ⟨#[]⟩) := hW 0 (by decide)
  have h1 : w.cell? ⟨2, 1, none⟩ = some (.string ⟨#[112, 117, 116]⟩) := hW 1 (by decide)
  have h2 : w.cell? ⟨2, 2, none⟩ = some (.string ⟨#[116, 97, 107, 101]⟩) := hW 2 (by decide)
  have h3 : w.cell? ⟨2, 3, none⟩ = some (.string ⟨#[102, 114, 111, 110, 116]⟩) := hW 3 (by decide)
  have h4 : w.cell? ⟨2, 4, none⟩ = some (.string ⟨#[98, 97, 99, 107]⟩) := hW 4 (by decide)
  have h5 : w.cell? ⟨2, 5, none⟩ = some (.string ⟨#[112, 101, 101, 107]⟩) := hW 5 (by decide)
  have h6 : w.cell? ⟨2, 6, none⟩ = some (.string ⟨#[99, 111, 117, 110, 116]⟩) := hW 6 (by decide)
  have f0 := whats_at0
  have f1 := whats_at1
  have f2 := whats_at2
  have f3 := whats_at3
  have f4 := whats_at4
  have f5 := whats_at5
  have f6 := whats_at6
  clear hW
  go_enter Tryf.func15, Tryf.ntmps15
  go_wp2_with fail
  clear h0 h1 h2 h3 h4 h5 h6
  refine wp_loop_rounds 1 ?_
  rw [rounds_succ]
  go_wp2
  go_ret
  exact ⟨rfl, rfl⟩

set_option maxHeartbeats 1000000 in
theorem what_1 (w : World) (hW : Wh w) :
    Calls Tryf.prog 15 #[.string ⟨#[112, 117, 116]⟩] w fun e w' => e = .returned (.int .i64 1) ∧ w' = w := by
  have h0 : w.cell? ⟨2, 0, none⟩ = some (.string ⟨#[]⟩) := hW 0 (by decide)
  have h1 : w.cell? ⟨2, 1, none⟩ = some (.string ⟨#[112, 117, 116]⟩) := hW 1 (by decide)
  have h2 : w.cell? ⟨2, 2, none⟩ = some (.string ⟨#[116, 97, 107, 101]⟩) := hW 2 (by decide)
  have h3 : w.cell? ⟨2, 3, none⟩ = some (.string ⟨#[102, 114, 111, 110, 116]⟩) := hW 3 (by decide)
  have h4 : w.cell? ⟨2, 4, none⟩ = some (.string ⟨#[98, 97, 99, 107]⟩) := hW 4 (by decide)
  have h5 : w.cell? ⟨2, 5, none⟩ = some (.string ⟨#[112, 101, 101, 107]⟩) := hW 5 (by decide)
  have h6 : w.cell? ⟨2, 6, none⟩ = some (.string ⟨#[99, 111, 117, 110, 116]⟩) := hW 6 (by decide)
  have f0 := whats_at0
  have f1 := whats_at1
  have f2 := whats_at2
  have f3 := whats_at3
  have f4 := whats_at4
  have f5 := whats_at5
  have f6 := whats_at6
  clear hW
  go_enter Tryf.func15, Tryf.ntmps15
  go_wp2_with fail
  clear h0 h1 h2 h3 h4 h5 h6
  refine wp_loop_rounds 2 ?_
  rw [rounds_succ]
  go_wp2
  rw [rounds_succ]
  go_wp2
  go_ret
  exact ⟨rfl, rfl⟩

set_option maxHeartbeats 1000000 in
theorem what_2 (w : World) (hW : Wh w) :
    Calls Tryf.prog 15 #[.string ⟨#[116, 97, 107, 101]⟩] w fun e w' => e = .returned (.int .i64 2) ∧ w' = w := by
  have h0 : w.cell? ⟨2, 0, none⟩ = some (.string ⟨#[]⟩) := hW 0 (by decide)
  have h1 : w.cell? ⟨2, 1, none⟩ = some (.string ⟨#[112, 117, 116]⟩) := hW 1 (by decide)
  have h2 : w.cell? ⟨2, 2, none⟩ = some (.string ⟨#[116, 97, 107, 101]⟩) := hW 2 (by decide)
  have h3 : w.cell? ⟨2, 3, none⟩ = some (.string ⟨#[102, 114, 111, 110, 116]⟩) := hW 3 (by decide)
  have h4 : w.cell? ⟨2, 4, none⟩ = some (.string ⟨#[98, 97, 99, 107]⟩) := hW 4 (by decide)
  have h5 : w.cell? ⟨2, 5, none⟩ = some (.string ⟨#[112, 101, 101, 107]⟩) := hW 5 (by decide)
  have h6 : w.cell? ⟨2, 6, none⟩ = some (.string ⟨#[99, 111, 117, 110, 116]⟩) := hW 6 (by decide)
  have f0 := whats_at0
  have f1 := whats_at1
  have f2 := whats_at2
  have f3 := whats_at3
  have f4 := whats_at4
  have f5 := whats_at5
  have f6 := whats_at6
  clear hW
  go_enter Tryf.func15, Tryf.ntmps15
  go_wp2_with fail
  clear h0 h1 h2 h3 h4 h5 h6
  refine wp_loop_rounds 3 ?_
  rw [rounds_succ]
  go_wp2
  rw [rounds_succ]
  go_wp2
  rw [rounds_succ]
  go_wp2
  go_ret
  exact ⟨rfl, rfl⟩

set_option maxHeartbeats 1000000 in
theorem what_3 (w : World) (hW : Wh w) :
    Calls Tryf.prog 15 #[.string ⟨#[102, 114, 111, 110, 116]⟩] w fun e w' => e = .returned (.int .i64 3) ∧ w' = w := by
  have h0 : w.cell? ⟨2, 0, none⟩ = some (.string ⟨#[]⟩) := hW 0 (by decide)
  have h1 : w.cell? ⟨2, 1, none⟩ = some (.string ⟨#[112, 117, 116]⟩) := hW 1 (by decide)
  have h2 : w.cell? ⟨2, 2, none⟩ = some (.string ⟨#[116, 97, 107, 101]⟩) := hW 2 (by decide)
  have h3 : w.cell? ⟨2, 3, none⟩ = some (.string ⟨#[102, 114, 111, 110, 116]⟩) := hW 3 (by decide)
  have h4 : w.cell? ⟨2, 4, none⟩ = some (.string ⟨#[98, 97, 99, 107]⟩) := hW 4 (by decide)
  have h5 : w.cell? ⟨2, 5, none⟩ = some (.string ⟨#[112, 101, 101, 107]⟩) := hW 5 (by decide)
  have h6 : w.cell? ⟨2, 6, none⟩ = some (.string ⟨#[99, 111, 117, 110, 116]⟩) := hW 6 (by decide)
  have f0 := whats_at0
  have f1 := whats_at1
  have f2 := whats_at2
  have f3 := whats_at3
  have f4 := whats_at4
  have f5 := whats_at5
  have f6 := whats_at6
  clear hW
  go_enter Tryf.func15, Tryf.ntmps15
  go_wp2_with fail
  clear h0 h1 h2 h3 h4 h5 h6
  refine wp_loop_rounds 4 ?_
  rw [rounds_succ]
  go_wp2
  rw [rounds_succ]
  go_wp2
  rw [rounds_succ]
  go_wp2
  rw [rounds_succ]
  go_wp2
  go_ret
  exact ⟨rfl, rfl⟩

set_option maxHeartbeats 1000000 in
theorem what_4 (w : World) (hW : Wh w) :
    Calls Tryf.prog 15 #[.string ⟨#[98, 97, 99, 107]⟩] w fun e w' => e = .returned (.int .i64 4) ∧ w' = w := by
  have h0 : w.cell? ⟨2, 0, none⟩ = some (.string ⟨#[]⟩) := hW 0 (by decide)
  have h1 : w.cell? ⟨2, 1, none⟩ = some (.string ⟨#[112, 117, 116]⟩) := hW 1 (by decide)
  have h2 : w.cell? ⟨2, 2, none⟩ = some (.string ⟨#[116, 97, 107, 101]⟩) := hW 2 (by decide)
  have h3 : w.cell? ⟨2, 3, none⟩ = some (.string ⟨#[102, 114, 111, 110, 116]⟩) := hW 3 (by decide)
  have h4 : w.cell? ⟨2, 4, none⟩ = some (.string ⟨#[98, 97, 99, 107]⟩) := hW 4 (by decide)
  have h5 : w.cell? ⟨2, 5, none⟩ = some (.string ⟨#[112, 101, 101, 107]⟩) := hW 5 (by decide)
  have h6 : w.cell? ⟨2, 6, none⟩ = some (.string ⟨#[99, 111, 117, 110, 116]⟩) := hW 6 (by decide)
  have f0 := whats_at0
  have f1 := whats_at1
  have f2 := whats_at2
  have f3 := whats_at3
  have f4 := whats_at4
  have f5 := whats_at5
  have f6 := whats_at6
  clear hW
  go_enter Tryf.func15, Tryf.ntmps15
  go_wp2_with fail
  clear h0 h1 h2 h3 h4 h5 h6
  refine wp_loop_rounds 5 ?_
  rw [rounds_succ]
  go_wp2
  rw [rounds_succ]
  go_wp2
  rw [rounds_succ]
  go_wp2
  rw [rounds_succ]
  go_wp2
  rw [rounds_succ]
  go_wp2
  go_ret
  exact ⟨rfl, rfl⟩

set_option maxHeartbeats 1000000 in
theorem what_5 (w : World) (hW : Wh w) :
    Calls Tryf.prog 15 #[.string ⟨#[112, 101, 101, 107]⟩] w fun e w' => e = .returned (.int .i64 5) ∧ w' = w := by
  have h0 : w.cell? ⟨2, 0, none⟩ = some (.string ⟨#[]⟩) := hW 0 (by decide)
  have h1 : w.cell? ⟨2, 1, none⟩ = some (.string ⟨#[112, 117, 116]⟩) := hW 1 (by decide)
  have h2 : w.cell? ⟨2, 2, none⟩ = some (.string ⟨#[116, 97, 107, 101]⟩) := hW 2 (by decide)
  have h3 : w.cell? ⟨2, 3, none⟩ = some (.string ⟨#[102, 114, 111, 110, 116]⟩) := hW 3 (by decide)
  have h4 : w.cell? ⟨2, 4, none⟩ = some (.string ⟨#[98, 97, 99, 107]⟩) := hW 4 (by decide)
  have h5 : w.cell? ⟨2, 5, none⟩ = some (.string ⟨#[112, 101, 101, 107]⟩) := hW 5 (by decide)
  have h6 : w.cell? ⟨2, 6, none⟩ = some (.string ⟨#[99, 111, 117, 110, 116]⟩) := hW 6 (by decide)
  have f0 := whats_at0
  have f1 := whats_at1
  have f2 := whats_at2
  have f3 := whats_at3
  have f4 := whats_at4
  have f5 := whats_at5
  have f6 := whats_at6
  clear hW
  go_enter Tryf.func15, Tryf.ntmps15
  go_wp2_with fail
  clear h0 h1 h2 h3 h4 h5 h6
  refine wp_loop_rounds 6 ?_
  rw [rounds_succ]
  go_wp2
  rw [rounds_succ]
  go_wp2
  rw [rounds_succ]
  go_wp2
  rw [rounds_succ]
  go_wp2
  rw [rounds_succ]
  go_wp2
  rw [rounds_succ]
  go_wp2
  go_ret
  exact ⟨rfl, rfl⟩

set_option maxHeartbeats 1000000 in
theorem what_6 (w : World) (hW : Wh w) :
    Calls Tryf.prog 15 #[.string ⟨#[99, 111, 117, 110, 116]⟩] w fun e w' => e = .returned (.int .i64 6) ∧ w' = w := by
  have h0 : w.cell? ⟨2, 0, none⟩ = some (.string ⟨#[]⟩) := hW 0 (by decide)
  have h1 : w.cell? ⟨2, 1, none⟩ = some (.string ⟨#[112, 117, 116]⟩) := hW 1 (by decide)
  have h2 : w.cell? ⟨2, 2, none⟩ = some (.string ⟨#[116, 97, 107, 101]⟩) := hW 2 (by decide)
  have h3 : w.cell? ⟨2, 3, none⟩ = some (.string ⟨#[102, 114, 111, 110, 116]⟩) := hW 3 (by decide)
  have h4 : w.cell? ⟨2, 4, none⟩ = some (.string ⟨#[98, 97, 99, 107]⟩) := hW 4 (by decide)
  have h5 : w.cell? ⟨2, 5, none⟩ = some (.string ⟨#[112, 101, 101, 107]⟩) := hW 5 (by decide)
  have h6 : w.cell? ⟨2, 6, none⟩ = some (.string ⟨#[99, 111, 117, 110, 116]⟩) := hW 6 (by decide)
  have f0 := whats_at0
  have f1 := whats_at1
  have f2 := whats_at2
  have f3 := whats_at3
  have f4 := whats_at4
  have f5 := whats_at5
  have f6 := whats_at6
  clear hW
  go_enter Tryf.func15, Tryf.ntmps15
  go_wp2_with fail
  clear h0 h1 h2 h3 h4 h5 h6
  refine wp_loop_rounds 7 ?_
  rw [rounds_succ]
  go_wp2
  rw [rounds_succ]
  go_wp2
  rw [rounds_succ]
  go_wp2
  rw [rounds_succ]
  go_wp2
  rw [rounds_succ]
  go_wp2
  rw [rounds_succ]
  go_wp2
  rw [rounds_succ]
  go_wp2
  go_ret
  exact ⟨rfl, rfl⟩

set_option maxHeartbeats 1000000 in
theorem what_none (s : ByteArray) (w : World) (hW : Wh w) (g0 : ([] == s.toList) = false) (g1 : ([112, 117, 116] == s.toList) = false) (g2 : ([116, 97, 107, 101] == s.toList) = false) (g3 : ([102, 114, 111, 110, 116] == s.toList) = false) (g4 : ([98, 97, 99, 107] == s.toList) = false) (g5 : ([112, 101, 101, 107] == s.toList) = false) (g6 : ([99, 111, 117, 110, 116] == s.toList) = false) :
    Calls Tryf.prog 15 #[.string s] w fun e w' => e = .returned (.int .i64 0) ∧ w' = w := by
  have h0 : w.cell? ⟨2, 0, none⟩ = some (.string ⟨#[]⟩) := hW 0 (by decide)
  have h1 : w.cell? ⟨2, 1, none⟩ = some (.string ⟨#[112, 117, 116]⟩) := hW 1 (by decide)
  have h2 : w.cell? ⟨2, 2, none⟩ = some (.string ⟨#[116, 97, 107, 101]⟩) := hW 2 (by decide)
  have h3 : w.cell? ⟨2, 3, none⟩ = some (.string ⟨#[102, 114, 111, 110, 116]⟩) := hW 3 (by decide)
  have h4 : w.cell? ⟨2, 4, none⟩ = some (.string ⟨#[98, 97, 99, 107]⟩) := hW 4 (by decide)
  have h5 : w.cell? ⟨2, 5, none⟩ = some (.string ⟨#[112, 101, 101, 107]⟩) := hW 5 (by decide)
  have h6 : w.cell? ⟨2, 6, none⟩ = some (.string ⟨#[99, 111, 117, 110, 116]⟩) := hW 6 (by decide)
  have f0 := whats_at0
  have f1 := whats_at1
  have f2 := whats_at2
  have f3 := whats_at3
  have f4 := whats_at4
  have f5 := whats_at5
  have f6 := whats_at6
  clear hW
  go_enter Tryf.func15, Tryf.ntmps15
  go_wp2_with fail
  clear h0 h1 h2 h3 h4 h5 h6
  refine wp_loop_rounds 8 ?_
  rw [rounds_succ]
  go_wp2
  rw [rounds_succ]
  go_wp2
  rw [rounds_succ]
  go_wp2
  rw [rounds_succ]
  go_wp2
  rw [rounds_succ]
  go_wp2
  rw [rounds_succ]
  go_wp2
  rw [rounds_succ]
  go_wp2
  rw [rounds_succ]
  go_wp2
  go_ret
  exact ⟨rfl, rfl⟩

theorem ne_of {s : ByteArray} {l : List UInt8} (h : ¬ s.data.toList = l) : (l == s.toList) = false := by
  rw [Lib.toList_data]; exact beq_eq_false_iff_ne.2 (fun e => h e.symm)

theorem what_any (s : ByteArray) (w : World) (hW : Wh w) :
    Calls Tryf.prog 15 #[.string s] w fun e w' => e = .returned (.int .i64 (whatOf s.data.toList)) ∧ w' = w := by
  by_cases e0 : s.data.toList = []
  · obtain rfl := ba_of e0
    exact what_0 w hW
  by_cases e1 : s.data.toList = [112, 117, 116]
  · obtain rfl := ba_of e1
    exact what_1 w hW
  by_cases e2 : s.data.toList = [116, 97, 107, 101]
  · obtain rfl := ba_of e2
    exact what_2 w hW
  by_cases e3 : s.data.toList = [102, 114, 111, 110, 116]
  · obtain rfl := ba_of e3
    exact what_3 w hW
  by_cases e4 : s.data.toList = [98, 97, 99, 107]
  · obtain rfl := ba_of e4
    exact what_4 w hW
  by_cases e5 : s.data.toList = [112, 101, 101, 107]
  · obtain rfl := ba_of e5
    exact what_5 w hW
  by_cases e6 : s.data.toList = [99, 111, 117, 110, 116]
  · obtain rfl := ba_of e6
    exact what_6 w hW
  have hn : whatOf s.data.toList = 0 := by
    unfold whatOf
    rw [if_neg e0, if_neg (show ¬ s.data.toList = nm 1 from e1), if_neg (show ¬ s.data.toList = nm 2 from e2), if_neg (show ¬ s.data.toList = nm 3 from e3), if_neg (show ¬ s.data.toList = nm 4 from e4), if_neg (show ¬ s.data.toList = nm 5 from e5), if_neg (show ¬ s.data.toList = nm 6 from e6)]
  rw [hn]
  exact what_none s w hW (ne_of e0) (ne_of e1) (ne_of e2) (ne_of e3) (ne_of e4) (ne_of e5) (ne_of e6)
end Go.Proofs.YtdohomdhgkhebabFmt
