/- The keepers' put and tallied, by their contracts. -/
import Derived.Test.YtbmgjpdfmgcigaaTa
import Derived.Test.YtbmgjpdfmgcigaaPk
namespace Go.Proofs.Ytbmgjpdfmgcigaa.Tab
open Go.RowKit
set_option linter.unusedVariables false

theorem put_is (x : Int) (w : World) :
    Calls Try.prog 12 #[.int .i64 x] w fun e w' => e = .returned (.agg #[.int .i64 1, .int .i64 0, .int .i64 x]) ∧ Below w.heap.size w w' := by
  go_enter Try.func12, Try.ntmps12
  go_wp2
  exact bodyPost_ret (v := .agg #[.int .i64 1, .int .i64 0, .int .i64 x]) (by simp [results, Try.results12, go_sem]) rfl ⟨rfl, (Below.refl _ w).alloc (Nat.le_refl _) _⟩

set_option maxHeartbeats 2000000 in
theorem tallied_is  (w : World) :
    Calls Try.prog 10 #[] w (fun e w' => e = .returned (.bool true) ∧ Below w.heap.size w w') := by
  have HA : Hid ((Try.prog.info? 25).map (·.size) = some 2) := answer_sz
  obtain ⟨fs, ha⟩ := answer_st
  have HDA : Hid _ := ha
  clear ha
  have g0 : Hid (Gd w.heap.size w w) := Gd.refl w
  have D : ∀ w : World, _ := aDo_eq (n := 5) (o := 1) (k := 0) (x := 3) (by omega) (by omega) (by omega) (by omega) (show ado 5 1 3 = (8, 1, 5) from rfl)
  have E : ∀ w : World, _ := aDo_eq (n := 5) (o := 2) (k := 0) (x := 6) (by omega) (by omega) (by omega) (by omega) (show ado 5 2 6 = (5, 2, 0) from rfl)
  go_enter Try.func10, Try.ntmps10
  go_wp2_with fail
  generalize hsz : w.heap.size = n at g0  ⊢
  have HSZ : Hid (w.heap.size = n) := hsz
  clear hsz
  refine (put_is (3) _).mono ?_
  rintro e u1q ⟨rfl, hb⟩
  have h2q : Hid (Gd n w u1q) := g0.out.later hb
  clear g0
  clear hb
  go_wp2_with fail
  refine (D _).mono ?_
  rintro e u3q ⟨rfl, hb⟩
  have h4q : Hid (Gd n w u3q) := h2q.out.later hb
  clear h2q
  clear hb
  clear D
  have l5q : n ≤ u3q.heap.size := h4q.out.le
  have h6q : Hid (Gd n w (u3q.alloc (.cells #[.int .i64 0, .int .i64 0] 25))) := h4q.out.new (.cells #[.int .i64 0, .int .i64 0] 25)
  clear h4q
  have h7q : Hid (Bo (u3q.alloc (.cells #[.int .i64 0, .int .i64 0] 25)) u3q.heap.size [.int .i64 0, .int .i64 0]) := Bo.born u3q [.int .i64 0, .int .i64 0] 25 (by simp)
  go_wp2_with (first
    | (refine wpList_store_mid rfl 25 _ _ rfl u3q.heap.size _ #[.int .i64 (1), .int .i64 (5)] rfl rfl h7q.out.there2 HA.out (two_one _ _) ?_
       have h8q : Hid (Gd n w ((u3q.alloc (.cells #[.int .i64 0, .int .i64 0] 25)).setCells u3q.heap.size 0 [.int .i64 (1), .int .i64 (5)])) := h6q.out.asideL (by omega) 0 [.int .i64 (1), .int .i64 (5)]
       have h9q : Hid (Bo ((u3q.alloc (.cells #[.int .i64 0, .int .i64 0] 25)).setCells u3q.heap.size 0 [.int .i64 (1), .int .i64 (5)]) u3q.heap.size [.int .i64 (1), .int .i64 (5)]) := h7q.out.set2 (.int .i64 (1)) (.int .i64 (5))
       clear h6q h7q
       generalize ((u3q.alloc (.cells #[.int .i64 0, .int .i64 0] 25)).setCells u3q.heap.size 0 [.int .i64 (1), .int .i64 (5)]) = u10q at h8q h9q  ⊢))
  refine (E _).mono ?_
  rintro e u11q ⟨rfl, hb⟩
  have h12q : Hid (Gd n w u11q) := h8q.out.later hb
  have h13q : Hid (Bo u11q u3q.heap.size [.int .i64 (1), .int .i64 (5)]) := h9q.out.later hb
  clear h8q h9q
  clear hb
  clear E
  have l14q : n ≤ u11q.heap.size := h12q.out.le
  have l15q : u3q.heap.size < u11q.heap.size := h13q.out.lt
  have h16q : Hid (Gd n w (u11q.alloc (.cells #[.int .i64 0, .int .i64 0] 25))) := h12q.out.new (.cells #[.int .i64 0, .int .i64 0] 25)
  have h17q : Hid (Bo (u11q.alloc (.cells #[.int .i64 0, .int .i64 0] 25)) u3q.heap.size [.int .i64 (1), .int .i64 (5)]) := h13q.out.new (.cells #[.int .i64 0, .int .i64 0] 25)
  clear h12q h13q
  have h18q : Hid (Bo (u11q.alloc (.cells #[.int .i64 0, .int .i64 0] 25)) u11q.heap.size [.int .i64 0, .int .i64 0]) := Bo.born u11q [.int .i64 0, .int .i64 0] 25 (by simp)
  go_wp2_with (first
    | (refine wpList_store_mid rfl 25 _ _ rfl u11q.heap.size _ #[.int .i64 (2), .int .i64 (0)] rfl rfl h18q.out.there2 HA.out (two_one _ _) ?_
       have h19q : Hid (Gd n w ((u11q.alloc (.cells #[.int .i64 0, .int .i64 0] 25)).setCells u11q.heap.size 0 [.int .i64 (2), .int .i64 (0)])) := h16q.out.asideL (by omega) 0 [.int .i64 (2), .int .i64 (0)]
       have h20q : Hid (Bo ((u11q.alloc (.cells #[.int .i64 0, .int .i64 0] 25)).setCells u11q.heap.size 0 [.int .i64 (2), .int .i64 (0)]) u3q.heap.size [.int .i64 (1), .int .i64 (5)]) := h17q.out.asideL (by omega) 0 [.int .i64 (2), .int .i64 (0)]
       have h21q : Hid (Bo ((u11q.alloc (.cells #[.int .i64 0, .int .i64 0] 25)).setCells u11q.heap.size 0 [.int .i64 (2), .int .i64 (0)]) u11q.heap.size [.int .i64 (2), .int .i64 (0)]) := h18q.out.set2 (.int .i64 (2)) (.int .i64 (0))
       clear h16q h17q h18q
       generalize ((u11q.alloc (.cells #[.int .i64 0, .int .i64 0] 25)).setCells u11q.heap.size 0 [.int .i64 (2), .int .i64 (0)]) = u22q at h19q h20q h21q  ⊢
       have c23q := h20q.out.at 0 rfl
       have c24q := h20q.out.at 1 rfl
       have c25q := h21q.out.at 0 rfl
       have c26q := h21q.out.at 1 rfl))
  go_ret
  exact ⟨rfl, by first | exact h19q.out.low | exact h19q.out.2⟩
end Go.Proofs.Ytbmgjpdfmgcigaa.Tab
