/- TallyOrder is proved: for every three numbers the call returns true (to add and to take off come to the same, in whichever order, if neither is refused). -/
import Derived.Test.YtbmgjpdfmgcigaaRows
import Derived.Test.YtbmgjpdfmgcigaaKta
import Derived.Test.YtbmgjpdfmgcigaaTal
import Derived.Test.YtbmgjpdfmgcigaaArgOp

namespace Go.Proofs.Ytbmgjpdfmgcigaa.Tab.tallyOrder
open Go.ChangeShapes Go.WideShapes Go.ChangeAt Go.RowKit
set_option linter.unusedVariables false

theorem own : ownKnob Try.prog.godebug = none := by kernel_rfl

set_option maxHeartbeats 2000000 in
theorem walk (a0 a1 a2 : Int) (w0 : (Lit.int .i64 a0).wf = true) (w1 : (Lit.int .i64 a1).wf = true) (w2 : (Lit.int .i64 a2).wf = true) (w : World) :
    Calls Try.prog 6 #[.int .i64 a0, .int .i64 a1, .int .i64 a2] w (fun e w' => e = .returned (.bool true) ∧ Below w.heap.size w w') := by
  have HA : Hid ((Try.prog.info? 25).map (·.size) = some 2) := answer_sz
  obtain ⟨fs, ha⟩ := answer_st
  have HDA : Hid _ := ha
  clear ha
  have g0 : Hid (Gd w.heap.size w w) := Gd.refl w
  clear w0 w1 w2
  go_enter Try.func6, Try.ntmps6
  go_wp2_with fail
  generalize hsz : w.heap.size = n at g0  ⊢
  have HSZ : Hid (w.heap.size = n) := hsz
  clear hsz
  refine (tallied_is _).mono ?_
  rintro e u106q ⟨rfl, hb⟩
  have h107q : Hid (Gd n w u106q) := g0.out.later hb
  clear g0
  clear hb
  obtain ⟨p, hp, pp⟩ := pick_4294967296 a0
  have Pp : Hid _ := pp
  clear pp
  obtain ⟨q, hq, pq⟩ := pick_4294967296 a1
  have Pq : Hid _ := pq
  clear pq
  obtain ⟨r, hr, pr⟩ := pick_4294967296 a2
  have Pr : Hid _ := pr
  clear pr
  go_wp2_with fail
  refine (Pp.out _).mono ?_
  rintro e u108q ⟨rfl, hw⟩
  rw [hw]; clear hw u108q
  go_wp2_with fail
  refine (Pq.out _).mono ?_
  rintro e u109q ⟨rfl, hw⟩
  rw [hw]; clear hw u109q
  go_wp2_with fail
  refine (Pr.out _).mono ?_
  rintro e u110q ⟨rfl, hw⟩
  rw [hw]; clear hw u110q
  obtain ⟨pi, ep⟩ : ∃ x : Int, ((p : Nat) : Int) = x := ⟨_, rfl⟩
  have p0 : 0 ≤ pi := by omega
  have p1 : pi ≤ 4294967295 := by omega
  rw [ep]
  clear ep Pp hp
  obtain ⟨qi, eq⟩ : ∃ x : Int, ((q : Nat) : Int) = x := ⟨_, rfl⟩
  have q0 : 0 ≤ qi := by omega
  have q1 : qi ≤ 4294967295 := by omega
  rw [eq]
  clear eq Pq hq
  obtain ⟨ri, er⟩ : ∃ x : Int, ((r : Nat) : Int) = x := ⟨_, rfl⟩
  have r0 : 0 ≤ ri := by omega
  have r1 : ri ≤ 4294967295 := by omega
  rw [er]
  clear er Pr hr
  obtain ⟨⟨m1, c1, y1⟩, u1⟩ : ∃ r, ado pi 1 qi = r := ⟨_, rfl⟩
  have b1 := ado_in p0 p1 q0 q1 u1
  obtain ⟨⟨m2, c2, y2⟩, u2⟩ : ∃ r, ado m1 2 ri = r := ⟨_, rfl⟩
  obtain ⟨⟨m3, c3, y3⟩, u3⟩ : ∃ r, ado pi 2 ri = r := ⟨_, rfl⟩
  have b3 := ado_in p0 p1 r0 r1 u3
  obtain ⟨⟨m4, c4, y4⟩, u4⟩ : ∃ r, ado m3 1 qi = r := ⟨_, rfl⟩
  have D1 : ∀ w : World, _ := aDo_eq (n := pi) (o := 1) (k := 0) (x := qi) (by omega) (by omega) (by omega) (by omega) (show ado pi 1 qi = (m1, c1, y1) from u1)
  have D2 : ∀ w : World, _ := aDo_eq (n := m1) (o := 2) (k := 0) (x := ri) (by omega) (by omega) (by omega) (by omega) (show ado m1 2 ri = (m2, c2, y2) from u2)
  have D3 : ∀ w : World, _ := aDo_eq (n := pi) (o := 2) (k := 0) (x := ri) (by omega) (by omega) (by omega) (by omega) (show ado pi 2 ri = (m3, c3, y3) from u3)
  have D4 : ∀ w : World, _ := aDo_eq (n := m3) (o := 1) (k := 0) (x := qi) (by omega) (by omega) (by omega) (by omega) (show ado m3 1 qi = (m4, c4, y4) from u4)
  have FIN : Hid (c1 = 1 → c2 = 1 → c3 = 1 → c4 = 1 → m2 = m4) := ado_either u1 u2 u3 u4
  clear u1 u2 u3 u4 b1 b3
  go_wp2_with fail
  refine (put_is (qi) _).mono ?_
  rintro e u111q ⟨rfl, hb⟩
  have h112q : Hid (Gd n w u111q) := h107q.out.later hb
  clear h107q
  clear hb
  go_wp2_with fail
  refine (D1 _).mono ?_
  rintro e u113q ⟨rfl, hb⟩
  have h114q : Hid (Gd n w u113q) := h112q.out.later hb
  clear h112q
  clear hb
  clear D1
  have l115q : n ≤ u113q.heap.size := h114q.out.le
  have h116q : Hid (Gd n w (u113q.alloc (.cells #[.int .i64 0, .int .i64 0] 25))) := h114q.out.new (.cells #[.int .i64 0, .int .i64 0] 25)
  clear h114q
  have h117q : Hid (Bo (u113q.alloc (.cells #[.int .i64 0, .int .i64 0] 25)) u113q.heap.size [.int .i64 0, .int .i64 0]) := Bo.born u113q [.int .i64 0, .int .i64 0] 25 (by simp)
  go_wp2_with (first
    | (refine wpList_store_mid rfl 25 _ _ rfl u113q.heap.size _ #[.int .i64 (c1), .int .i64 (y1)] rfl rfl h117q.out.there2 HA.out (two_one _ _) ?_
       have h118q : Hid (Gd n w ((u113q.alloc (.cells #[.int .i64 0, .int .i64 0] 25)).setCells u113q.heap.size 0 [.int .i64 (c1), .int .i64 (y1)])) := h116q.out.asideL (by omega) 0 [.int .i64 (c1), .int .i64 (y1)]
       have h119q : Hid (Bo ((u113q.alloc (.cells #[.int .i64 0, .int .i64 0] 25)).setCells u113q.heap.size 0 [.int .i64 (c1), .int .i64 (y1)]) u113q.heap.size [.int .i64 (c1), .int .i64 (y1)]) := h117q.out.set2 (.int .i64 (c1)) (.int .i64 (y1))
       clear h116q h117q
       generalize ((u113q.alloc (.cells #[.int .i64 0, .int .i64 0] 25)).setCells u113q.heap.size 0 [.int .i64 (c1), .int .i64 (y1)]) = u120q at h118q h119q  ⊢))
  go_wp2_with fail
  refine (D2 _).mono ?_
  rintro e u121q ⟨rfl, hb⟩
  have h122q : Hid (Gd n w u121q) := h118q.out.later hb
  have h123q : Hid (Bo u121q u113q.heap.size [.int .i64 (c1), .int .i64 (y1)]) := h119q.out.later hb
  clear h118q h119q
  clear hb
  clear D2
  have l124q : n ≤ u121q.heap.size := h122q.out.le
  have l125q : u113q.heap.size < u121q.heap.size := h123q.out.lt
  have h126q : Hid (Gd n w (u121q.alloc (.cells #[.int .i64 0, .int .i64 0] 25))) := h122q.out.new (.cells #[.int .i64 0, .int .i64 0] 25)
  have h127q : Hid (Bo (u121q.alloc (.cells #[.int .i64 0, .int .i64 0] 25)) u113q.heap.size [.int .i64 (c1), .int .i64 (y1)]) := h123q.out.new (.cells #[.int .i64 0, .int .i64 0] 25)
  clear h122q h123q
  have h128q : Hid (Bo (u121q.alloc (.cells #[.int .i64 0, .int .i64 0] 25)) u121q.heap.size [.int .i64 0, .int .i64 0]) := Bo.born u121q [.int .i64 0, .int .i64 0] 25 (by simp)
  go_wp2_with (first
    | (refine wpList_store_mid rfl 25 _ _ rfl u121q.heap.size _ #[.int .i64 (c2), .int .i64 (y2)] rfl rfl h128q.out.there2 HA.out (two_one _ _) ?_
       have h129q : Hid (Gd n w ((u121q.alloc (.cells #[.int .i64 0, .int .i64 0] 25)).setCells u121q.heap.size 0 [.int .i64 (c2), .int .i64 (y2)])) := h126q.out.asideL (by omega) 0 [.int .i64 (c2), .int .i64 (y2)]
       have h130q : Hid (Bo ((u121q.alloc (.cells #[.int .i64 0, .int .i64 0] 25)).setCells u121q.heap.size 0 [.int .i64 (c2), .int .i64 (y2)]) u113q.heap.size [.int .i64 (c1), .int .i64 (y1)]) := h127q.out.asideL (by omega) 0 [.int .i64 (c2), .int .i64 (y2)]
       have h131q : Hid (Bo ((u121q.alloc (.cells #[.int .i64 0, .int .i64 0] 25)).setCells u121q.heap.size 0 [.int .i64 (c2), .int .i64 (y2)]) u121q.heap.size [.int .i64 (c2), .int .i64 (y2)]) := h128q.out.set2 (.int .i64 (c2)) (.int .i64 (y2))
       clear h126q h127q h128q
       generalize ((u121q.alloc (.cells #[.int .i64 0, .int .i64 0] 25)).setCells u121q.heap.size 0 [.int .i64 (c2), .int .i64 (y2)]) = u132q at h129q h130q h131q  ⊢))
  go_wp2_with fail
  refine (D3 _).mono ?_
  rintro e u133q ⟨rfl, hb⟩
  have h134q : Hid (Gd n w u133q) := h129q.out.later hb
  have h135q : Hid (Bo u133q u113q.heap.size [.int .i64 (c1), .int .i64 (y1)]) := h130q.out.later hb
  have h136q : Hid (Bo u133q u121q.heap.size [.int .i64 (c2), .int .i64 (y2)]) := h131q.out.later hb
  clear h129q h130q h131q
  clear hb
  clear D3
  have l137q : n ≤ u133q.heap.size := h134q.out.le
  have l138q : u113q.heap.size < u133q.heap.size := h135q.out.lt
  have l139q : u121q.heap.size < u133q.heap.size := h136q.out.lt
  have h140q : Hid (Gd n w (u133q.alloc (.cells #[.int .i64 0, .int .i64 0] 25))) := h134q.out.new (.cells #[.int .i64 0, .int .i64 0] 25)
  have h141q : Hid (Bo (u133q.alloc (.cells #[.int .i64 0, .int .i64 0] 25)) u113q.heap.size [.int .i64 (c1), .int .i64 (y1)]) := h135q.out.new (.cells #[.int .i64 0, .int .i64 0] 25)
  have h142q : Hid (Bo (u133q.alloc (.cells #[.int .i64 0, .int .i64 0] 25)) u121q.heap.size [.int .i64 (c2), .int .i64 (y2)]) := h136q.out.new (.cells #[.int .i64 0, .int .i64 0] 25)
  clear h134q h135q h136q
  have h143q : Hid (Bo (u133q.alloc (.cells #[.int .i64 0, .int .i64 0] 25)) u133q.heap.size [.int .i64 0, .int .i64 0]) := Bo.born u133q [.int .i64 0, .int .i64 0] 25 (by simp)
  go_wp2_with (first
    | (refine wpList_store_mid rfl 25 _ _ rfl u133q.heap.size _ #[.int .i64 (c3), .int .i64 (y3)] rfl rfl h143q.out.there2 HA.out (two_one _ _) ?_
       have h144q : Hid (Gd n w ((u133q.alloc (.cells #[.int .i64 0, .int .i64 0] 25)).setCells u133q.heap.size 0 [.int .i64 (c3), .int .i64 (y3)])) := h140q.out.asideL (by omega) 0 [.int .i64 (c3), .int .i64 (y3)]
       have h145q : Hid (Bo ((u133q.alloc (.cells #[.int .i64 0, .int .i64 0] 25)).setCells u133q.heap.size 0 [.int .i64 (c3), .int .i64 (y3)]) u113q.heap.size [.int .i64 (c1), .int .i64 (y1)]) := h141q.out.asideL (by omega) 0 [.int .i64 (c3), .int .i64 (y3)]
       have h146q : Hid (Bo ((u133q.alloc (.cells #[.int .i64 0, .int .i64 0] 25)).setCells u133q.heap.size 0 [.int .i64 (c3), .int .i64 (y3)]) u121q.heap.size [.int .i64 (c2), .int .i64 (y2)]) := h142q.out.asideL (by omega) 0 [.int .i64 (c3), .int .i64 (y3)]
       have h147q : Hid (Bo ((u133q.alloc (.cells #[.int .i64 0, .int .i64 0] 25)).setCells u133q.heap.size 0 [.int .i64 (c3), .int .i64 (y3)]) u133q.heap.size [.int .i64 (c3), .int .i64 (y3)]) := h143q.out.set2 (.int .i64 (c3)) (.int .i64 (y3))
       clear h140q h141q h142q h143q
       generalize ((u133q.alloc (.cells #[.int .i64 0, .int .i64 0] 25)).setCells u133q.heap.size 0 [.int .i64 (c3), .int .i64 (y3)]) = u148q at h144q h145q h146q h147q  ⊢))
  go_wp2_with fail
  refine (put_is (qi) _).mono ?_
  rintro e u149q ⟨rfl, hb⟩
  have h150q : Hid (Gd n w u149q) := h144q.out.later hb
  have h151q : Hid (Bo u149q u113q.heap.size [.int .i64 (c1), .int .i64 (y1)]) := h145q.out.later hb
  have h152q : Hid (Bo u149q u121q.heap.size [.int .i64 (c2), .int .i64 (y2)]) := h146q.out.later hb
  have h153q : Hid (Bo u149q u133q.heap.size [.int .i64 (c3), .int .i64 (y3)]) := h147q.out.later hb
  clear h144q h145q h146q h147q
  clear hb
  go_wp2_with fail
  refine (D4 _).mono ?_
  rintro e u154q ⟨rfl, hb⟩
  have h155q : Hid (Gd n w u154q) := h150q.out.later hb
  have h156q : Hid (Bo u154q u113q.heap.size [.int .i64 (c1), .int .i64 (y1)]) := h151q.out.later hb
  have h157q : Hid (Bo u154q u121q.heap.size [.int .i64 (c2), .int .i64 (y2)]) := h152q.out.later hb
  have h158q : Hid (Bo u154q u133q.heap.size [.int .i64 (c3), .int .i64 (y3)]) := h153q.out.later hb
  clear h150q h151q h152q h153q
  clear hb
  clear D4
  have l159q : n ≤ u154q.heap.size := h155q.out.le
  have l160q : u113q.heap.size < u154q.heap.size := h156q.out.lt
  have l161q : u121q.heap.size < u154q.heap.size := h157q.out.lt
  have l162q : u133q.heap.size < u154q.heap.size := h158q.out.lt
  have h163q : Hid (Gd n w (u154q.alloc (.cells #[.int .i64 0, .int .i64 0] 25))) := h155q.out.new (.cells #[.int .i64 0, .int .i64 0] 25)
  have h164q : Hid (Bo (u154q.alloc (.cells #[.int .i64 0, .int .i64 0] 25)) u113q.heap.size [.int .i64 (c1), .int .i64 (y1)]) := h156q.out.new (.cells #[.int .i64 0, .int .i64 0] 25)
  have h165q : Hid (Bo (u154q.alloc (.cells #[.int .i64 0, .int .i64 0] 25)) u121q.heap.size [.int .i64 (c2), .int .i64 (y2)]) := h157q.out.new (.cells #[.int .i64 0, .int .i64 0] 25)
  have h166q : Hid (Bo (u154q.alloc (.cells #[.int .i64 0, .int .i64 0] 25)) u133q.heap.size [.int .i64 (c3), .int .i64 (y3)]) := h158q.out.new (.cells #[.int .i64 0, .int .i64 0] 25)
  clear h155q h156q h157q h158q
  have h167q : Hid (Bo (u154q.alloc (.cells #[.int .i64 0, .int .i64 0] 25)) u154q.heap.size [.int .i64 0, .int .i64 0]) := Bo.born u154q [.int .i64 0, .int .i64 0] 25 (by simp)
  have hall : (c1 = 1 ∧ c2 = 1 ∧ c3 = 1 ∧ c4 = 1) ∨ c1 ≠ 1 ∨ c1 = 1 ∧ c2 ≠ 1 ∨ c1 = 1 ∧ c2 = 1 ∧ c3 ≠ 1 ∨ c1 = 1 ∧ c2 = 1 ∧ c3 = 1 ∧ c4 ≠ 1 := by omega
  rcases hall with ⟨d1, d2, d3, d4⟩ | d1 | ⟨d1, d2⟩ | ⟨d1, d2, d3⟩ | ⟨d1, d2, d3, d4⟩
  · have e : m2 = m4 := FIN.out d1 d2 d3 d4
    subst e d1 d2 d3 d4
    clear FIN
    go_wp2_with (first
      | (refine wpList_store_mid rfl 25 _ _ rfl u154q.heap.size _ #[.int .i64 (1), .int .i64 (y4)] rfl rfl h167q.out.there2 HA.out (two_one _ _) ?_
         have h168q : Hid (Gd n w ((u154q.alloc (.cells #[.int .i64 0, .int .i64 0] 25)).setCells u154q.heap.size 0 [.int .i64 (1), .int .i64 (y4)])) := h163q.out.asideL (by omega) 0 [.int .i64 (1), .int .i64 (y4)]
         have h169q : Hid (Bo ((u154q.alloc (.cells #[.int .i64 0, .int .i64 0] 25)).setCells u154q.heap.size 0 [.int .i64 (1), .int .i64 (y4)]) u113q.heap.size [.int .i64 1, .int .i64 (y1)]) := h164q.out.asideL (by omega) 0 [.int .i64 (1), .int .i64 (y4)]
         have h170q : Hid (Bo ((u154q.alloc (.cells #[.int .i64 0, .int .i64 0] 25)).setCells u154q.heap.size 0 [.int .i64 (1), .int .i64 (y4)]) u121q.heap.size [.int .i64 1, .int .i64 (y2)]) := h165q.out.asideL (by omega) 0 [.int .i64 (1), .int .i64 (y4)]
         have h171q : Hid (Bo ((u154q.alloc (.cells #[.int .i64 0, .int .i64 0] 25)).setCells u154q.heap.size 0 [.int .i64 (1), .int .i64 (y4)]) u133q.heap.size [.int .i64 1, .int .i64 (y3)]) := h166q.out.asideL (by omega) 0 [.int .i64 (1), .int .i64 (y4)]
         have h172q : Hid (Bo ((u154q.alloc (.cells #[.int .i64 0, .int .i64 0] 25)).setCells u154q.heap.size 0 [.int .i64 (1), .int .i64 (y4)]) u154q.heap.size [.int .i64 (1), .int .i64 (y4)]) := h167q.out.set2 (.int .i64 (1)) (.int .i64 (y4))
         clear h163q h164q h165q h166q h167q
         generalize ((u154q.alloc (.cells #[.int .i64 0, .int .i64 0] 25)).setCells u154q.heap.size 0 [.int .i64 (1), .int .i64 (y4)]) = u173q at h168q h169q h170q h171q h172q  ⊢
         have c174q := h169q.out.at 0 rfl
         have c175q := h170q.out.at 0 rfl
         have c176q := h171q.out.at 0 rfl
         have c177q := h172q.out.at 0 rfl))
    go_ret
    exact ⟨rfl, by first | exact h168q.out.low | exact h168q.out.2⟩
  · have m1e : (c1 == 1) = false := by simp [d1]
    clear FIN d1
    go_wp2_with (first
      | (refine wpList_store_mid rfl 25 _ _ rfl u154q.heap.size _ #[.int .i64 (c4), .int .i64 (y4)] rfl rfl h167q.out.there2 HA.out (two_one _ _) ?_
         have h178q : Hid (Gd n w ((u154q.alloc (.cells #[.int .i64 0, .int .i64 0] 25)).setCells u154q.heap.size 0 [.int .i64 (c4), .int .i64 (y4)])) := h163q.out.asideL (by omega) 0 [.int .i64 (c4), .int .i64 (y4)]
         have h179q : Hid (Bo ((u154q.alloc (.cells #[.int .i64 0, .int .i64 0] 25)).setCells u154q.heap.size 0 [.int .i64 (c4), .int .i64 (y4)]) u113q.heap.size [.int .i64 (c1), .int .i64 (y1)]) := h164q.out.asideL (by omega) 0 [.int .i64 (c4), .int .i64 (y4)]
         have h180q : Hid (Bo ((u154q.alloc (.cells #[.int .i64 0, .int .i64 0] 25)).setCells u154q.heap.size 0 [.int .i64 (c4), .int .i64 (y4)]) u121q.heap.size [.int .i64 (c2), .int .i64 (y2)]) := h165q.out.asideL (by omega) 0 [.int .i64 (c4), .int .i64 (y4)]
         have h181q : Hid (Bo ((u154q.alloc (.cells #[.int .i64 0, .int .i64 0] 25)).setCells u154q.heap.size 0 [.int .i64 (c4), .int .i64 (y4)]) u133q.heap.size [.int .i64 (c3), .int .i64 (y3)]) := h166q.out.asideL (by omega) 0 [.int .i64 (c4), .int .i64 (y4)]
         have h182q : Hid (Bo ((u154q.alloc (.cells #[.int .i64 0, .int .i64 0] 25)).setCells u154q.heap.size 0 [.int .i64 (c4), .int .i64 (y4)]) u154q.heap.size [.int .i64 (c4), .int .i64 (y4)]) := h167q.out.set2 (.int .i64 (c4)) (.int .i64 (y4))
         clear h163q h164q h165q h166q h167q
         generalize ((u154q.alloc (.cells #[.int .i64 0, .int .i64 0] 25)).setCells u154q.heap.size 0 [.int .i64 (c4), .int .i64 (y4)]) = u183q at h178q h179q h180q h181q h182q  ⊢
         have c184q := h179q.out.at 0 rfl
         have c185q := h180q.out.at 0 rfl
         have c186q := h181q.out.at 0 rfl
         have c187q := h182q.out.at 0 rfl))
    go_ret
    exact ⟨rfl, by first | exact h178q.out.low | exact h178q.out.2⟩
  · have m1e : (c1 == 1) = true := by simp [d1]
    have m2e : (c2 == 1) = false := by simp [d2]
    clear FIN d1 d2
    go_wp2_with (first
      | (refine wpList_store_mid rfl 25 _ _ rfl u154q.heap.size _ #[.int .i64 (c4), .int .i64 (y4)] rfl rfl h167q.out.there2 HA.out (two_one _ _) ?_
         have h188q : Hid (Gd n w ((u154q.alloc (.cells #[.int .i64 0, .int .i64 0] 25)).setCells u154q.heap.size 0 [.int .i64 (c4), .int .i64 (y4)])) := h163q.out.asideL (by omega) 0 [.int .i64 (c4), .int .i64 (y4)]
         have h189q : Hid (Bo ((u154q.alloc (.cells #[.int .i64 0, .int .i64 0] 25)).setCells u154q.heap.size 0 [.int .i64 (c4), .int .i64 (y4)]) u113q.heap.size [.int .i64 (c1), .int .i64 (y1)]) := h164q.out.asideL (by omega) 0 [.int .i64 (c4), .int .i64 (y4)]
         have h190q : Hid (Bo ((u154q.alloc (.cells #[.int .i64 0, .int .i64 0] 25)).setCells u154q.heap.size 0 [.int .i64 (c4), .int .i64 (y4)]) u121q.heap.size [.int .i64 (c2), .int .i64 (y2)]) := h165q.out.asideL (by omega) 0 [.int .i64 (c4), .int .i64 (y4)]
         have h191q : Hid (Bo ((u154q.alloc (.cells #[.int .i64 0, .int .i64 0] 25)).setCells u154q.heap.size 0 [.int .i64 (c4), .int .i64 (y4)]) u133q.heap.size [.int .i64 (c3), .int .i64 (y3)]) := h166q.out.asideL (by omega) 0 [.int .i64 (c4), .int .i64 (y4)]
         have h192q : Hid (Bo ((u154q.alloc (.cells #[.int .i64 0, .int .i64 0] 25)).setCells u154q.heap.size 0 [.int .i64 (c4), .int .i64 (y4)]) u154q.heap.size [.int .i64 (c4), .int .i64 (y4)]) := h167q.out.set2 (.int .i64 (c4)) (.int .i64 (y4))
         clear h163q h164q h165q h166q h167q
         generalize ((u154q.alloc (.cells #[.int .i64 0, .int .i64 0] 25)).setCells u154q.heap.size 0 [.int .i64 (c4), .int .i64 (y4)]) = u193q at h188q h189q h190q h191q h192q  ⊢
         have c194q := h189q.out.at 0 rfl
         have c195q := h190q.out.at 0 rfl
         have c196q := h191q.out.at 0 rfl
         have c197q := h192q.out.at 0 rfl))
    go_ret
    exact ⟨rfl, by first | exact h188q.out.low | exact h188q.out.2⟩
  · have m1e : (c1 == 1) = true := by simp [d1]
    have m2e : (c2 == 1) = true := by simp [d2]
    have m3e : (c3 == 1) = false := by simp [d3]
    clear FIN d1 d2 d3
    go_wp2_with (first
      | (refine wpList_store_mid rfl 25 _ _ rfl u154q.heap.size _ #[.int .i64 (c4), .int .i64 (y4)] rfl rfl h167q.out.there2 HA.out (two_one _ _) ?_
         have h198q : Hid (Gd n w ((u154q.alloc (.cells #[.int .i64 0, .int .i64 0] 25)).setCells u154q.heap.size 0 [.int .i64 (c4), .int .i64 (y4)])) := h163q.out.asideL (by omega) 0 [.int .i64 (c4), .int .i64 (y4)]
         have h199q : Hid (Bo ((u154q.alloc (.cells #[.int .i64 0, .int .i64 0] 25)).setCells u154q.heap.size 0 [.int .i64 (c4), .int .i64 (y4)]) u113q.heap.size [.int .i64 (c1), .int .i64 (y1)]) := h164q.out.asideL (by omega) 0 [.int .i64 (c4), .int .i64 (y4)]
         have h200q : Hid (Bo ((u154q.alloc (.cells #[.int .i64 0, .int .i64 0] 25)).setCells u154q.heap.size 0 [.int .i64 (c4), .int .i64 (y4)]) u121q.heap.size [.int .i64 (c2), .int .i64 (y2)]) := h165q.out.asideL (by omega) 0 [.int .i64 (c4), .int .i64 (y4)]
         have h201q : Hid (Bo ((u154q.alloc (.cells #[.int .i64 0, .int .i64 0] 25)).setCells u154q.heap.size 0 [.int .i64 (c4), .int .i64 (y4)]) u133q.heap.size [.int .i64 (c3), .int .i64 (y3)]) := h166q.out.asideL (by omega) 0 [.int .i64 (c4), .int .i64 (y4)]
         have h202q : Hid (Bo ((u154q.alloc (.cells #[.int .i64 0, .int .i64 0] 25)).setCells u154q.heap.size 0 [.int .i64 (c4), .int .i64 (y4)]) u154q.heap.size [.int .i64 (c4), .int .i64 (y4)]) := h167q.out.set2 (.int .i64 (c4)) (.int .i64 (y4))
         clear h163q h164q h165q h166q h167q
         generalize ((u154q.alloc (.cells #[.int .i64 0, .int .i64 0] 25)).setCells u154q.heap.size 0 [.int .i64 (c4), .int .i64 (y4)]) = u203q at h198q h199q h200q h201q h202q  ⊢
         have c204q := h199q.out.at 0 rfl
         have c205q := h200q.out.at 0 rfl
         have c206q := h201q.out.at 0 rfl
         have c207q := h202q.out.at 0 rfl))
    go_ret
    exact ⟨rfl, by first | exact h198q.out.low | exact h198q.out.2⟩
  · have m1e : (c1 == 1) = true := by simp [d1]
    have m2e : (c2 == 1) = true := by simp [d2]
    have m3e : (c3 == 1) = true := by simp [d3]
    have m4e : (c4 == 1) = false := by simp [d4]
    clear FIN d1 d2 d3 d4
    go_wp2_with (first
      | (refine wpList_store_mid rfl 25 _ _ rfl u154q.heap.size _ #[.int .i64 (c4), .int .i64 (y4)] rfl rfl h167q.out.there2 HA.out (two_one _ _) ?_
         have h208q : Hid (Gd n w ((u154q.alloc (.cells #[.int .i64 0, .int .i64 0] 25)).setCells u154q.heap.size 0 [.int .i64 (c4), .int .i64 (y4)])) := h163q.out.asideL (by omega) 0 [.int .i64 (c4), .int .i64 (y4)]
         have h209q : Hid (Bo ((u154q.alloc (.cells #[.int .i64 0, .int .i64 0] 25)).setCells u154q.heap.size 0 [.int .i64 (c4), .int .i64 (y4)]) u113q.heap.size [.int .i64 (c1), .int .i64 (y1)]) := h164q.out.asideL (by omega) 0 [.int .i64 (c4), .int .i64 (y4)]
         have h210q : Hid (Bo ((u154q.alloc (.cells #[.int .i64 0, .int .i64 0] 25)).setCells u154q.heap.size 0 [.int .i64 (c4), .int .i64 (y4)]) u121q.heap.size [.int .i64 (c2), .int .i64 (y2)]) := h165q.out.asideL (by omega) 0 [.int .i64 (c4), .int .i64 (y4)]
         have h211q : Hid (Bo ((u154q.alloc (.cells #[.int .i64 0, .int .i64 0] 25)).setCells u154q.heap.size 0 [.int .i64 (c4), .int .i64 (y4)]) u133q.heap.size [.int .i64 (c3), .int .i64 (y3)]) := h166q.out.asideL (by omega) 0 [.int .i64 (c4), .int .i64 (y4)]
         have h212q : Hid (Bo ((u154q.alloc (.cells #[.int .i64 0, .int .i64 0] 25)).setCells u154q.heap.size 0 [.int .i64 (c4), .int .i64 (y4)]) u154q.heap.size [.int .i64 (c4), .int .i64 (y4)]) := h167q.out.set2 (.int .i64 (c4)) (.int .i64 (y4))
         clear h163q h164q h165q h166q h167q
         generalize ((u154q.alloc (.cells #[.int .i64 0, .int .i64 0] 25)).setCells u154q.heap.size 0 [.int .i64 (c4), .int .i64 (y4)]) = u213q at h208q h209q h210q h211q h212q  ⊢
         have c214q := h209q.out.at 0 rfl
         have c215q := h210q.out.at 0 rfl
         have c216q := h211q.out.at 0 rfl
         have c217q := h212q.out.at 0 rfl))
    go_ret
    exact ⟨rfl, by first | exact h208q.out.low | exact h208q.out.2⟩


set_option maxRecDepth 100000 in
theorem lifted (os : Os) (started : os.Started) (H : Type) (enc : TypeId × Value → H) :
    ReturnsInHanded {} Try.checked os 6 .any (Rows.tallyOrderSpec.pre6 enc Try.prog Try.f6 Rows.tallyOrderRow.domain false) (Rows.tallyOrderSpec.post enc Try.prog Try.f6 false true false false) := by
  refine returnsInHanded_of_change (C := Try.checked) own started (by kernel_rfl) Try.func6
    (ChangeSpec.witness6 (enc := enc) (C := Try.checked) false ⟨#[], #[.int .i64 0, .int .i64 0, .int .i64 0], []⟩ 8 (by kernel_rfl) (by kernel_rfl) (by kernel_rfl) (by kernel_rfl)) ?_
  intro W base args ds gs before hval0 hW hcnd _
  have hval : ∀ (j : Nat) t v, Try.f6.params[j]? = some t → args[j]? = some v → Value.okWide Try.prog W .any base t v := hval0
  have hW' := hW
  obtain ⟨p, q, hA0, hV, rfl, hfz, hnd⟩ := hW
  have hA : DataW.TrodAll enc Try.prog W 0 (fun _ => true) true Try.f6.params.toList args.toList ds p := hA0
  rw [Try.params6] at hA hval
  obtain ⟨v0, vs0, d0, ds0, p0, q0, hargs, rfl, rfl, h0, r0⟩ := trodAll_cons hA
  obtain ⟨v1, vs1, d1, ds1, p1, q1, rfl, rfl, rfl, h1, r1⟩ := trodAll_cons r0
  obtain ⟨v2, vs2, d2, ds2, p2, q2, rfl, rfl, rfl, h2, r2⟩ := trodAll_cons r1
  obtain ⟨rfl, rfl, rfl⟩ := trodAll_nil r2
  obtain rfl : args = #[v0, v1, v2] := by cases args; simp_all
  obtain ⟨rfl, rfl⟩ := trodVars_none hV
  obtain ⟨a0, rfl, rfl, rfl, w0⟩ := open_int Try.underlying3 (hval 0 3 v0 rfl rfl) h0
  obtain ⟨a1, rfl, rfl, rfl, w1⟩ := open_int Try.underlying3 (hval 1 3 v1 rfl rfl) h1
  obtain ⟨a2, rfl, rfl, rfl, w2⟩ := open_int Try.underlying3 (hval 2 3 v2 rfl rfl) h2
  have hlt := hW'.lt
  clear hA0 hval0
  refine (walk a0 a1 a2 w0 w1 w2 W  ).mono fun e W' ⟨he, hg⟩ => ?_
  subst he
  exact ⟨_, rfl, post_below (pv := []) hW' (fun _ _ _ => (trodAll_cons_mk (shut_bool Try.underlying4 _) trodAll_mk0)) (fun sp hsp => (trodAll_cons_mk (shut_int Try.underlying3 w0) (trodAll_cons_mk (shut_int Try.underlying3 w1) (trodAll_cons_mk (shut_int Try.underlying3 w2) trodAll_mk0)))) (fun _ _ => rfl) (by simp) (hg.frame _)⟩

theorem over : Rows.tallyOrderRow.holds Try.pinned (OpenSpec.ofChange Rows.tallyOrderSpec) :=
  OpenClaim.holds_of_wide 6 Try.f6 rfl rfl rfl rfl rfl rfl rfl ⟨rfl, rfl, rfl, rfl, rfl⟩ rfl rfl rfl rfl rfl (by kernel_rfl) Try.func6 (by kernel_rfl)
    (of_decide_eq_true (by kernel_rfl)) (by unfold Func.isWrapper; first | (rw [if_pos (by decide +kernel)]; kernel_rfl) | (rw [if_neg (by decide +kernel)]; exact ⟨rfl, rfl⟩))
    (fun os started H enc _ => lifted os started H enc)

theorem proved : Rows.TallyOrderSaid :=
  over
#print axioms proved
end Go.Proofs.Ytbmgjpdfmgcigaa.Tab.tallyOrder
