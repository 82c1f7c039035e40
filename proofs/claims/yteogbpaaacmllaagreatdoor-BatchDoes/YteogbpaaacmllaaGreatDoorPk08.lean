/- Texts laid together: The reference's TableRight, by its contract; What a number takes in memory: the texts that have it here; The reference's ThingOf: what is no kind, a word that is too great, a tally, a table; The builtin append onto a row of the call's own, in a region that draws its order; The reference's HeapRight, by its contracts; The reference's Thing.Cells, by its contract: a list; The reference's ThingOf: lists; The reference's ThingOf, by its contract; What the reference's queue, stack, deque and heap hand back; Lists in memory that lie ahead of some blocks, or behind them; a thing's row of cells, written in part. -/
import Derived.Test.YteogbpaaacmllaaGreatDoorPk07
import Derived.Test.YteogbpaaacmllaaGreatDoorPk00
import Derived.Test.YteogbpaaacmllaaGreatDoorPk01
import Derived.Test.YteogbpaaacmllaaGreatDoorPk02
import Derived.Test.YteogbpaaacmllaaGreatDoorPk03
import Derived.Deep.LoopGhost
import Derived.Deep.RegionHeld
namespace Go.Proofs.YteogbpaaacmllaaGreatDoor.Tab
set_option maxRecDepth 20000
open Go.RowKit

theorem Gd.drewN {n : Nat} {w a : World} (h : Gd n w a) (q : Nat) : Gd n w (a.drewN q) := ⟨h.1, ⟨h.2.os, h.2.tape, h.2.output, h.2.size, h.2.block⟩⟩
theorem Bo.drewN_ {w : World} {b : Nat} {cs : List Value} (h : Bo w b cs) (q : Nat) : Bo (w.drewN q) b cs := ⟨h.cell, h.froz, h.lt⟩

/-- A slot as the document has it. -/
structure Ok (t : Tb) (i : Nat) : Prop where
  key : 0 ≤ t.k i ∧ t.k i ≤ 1000
  val : 0 ≤ t.v i ∧ t.v i ≤ 4294967295
  none : t.k i = 0 → t.v i = 0
  row : t.k i ≠ 0 → ∀ j, j < ds (home (t.k i)) i → ¬ Hit t (t.k i) (rowAt (t.k i) j)
theorem RT.ok {t : Tb} (h : RT t) {i : Nat} (hi : i < 8) : Ok t i where
  key := h.keys i hi
  val := h.vals i hi
  none := h.none i hi
  row hk j hj := h.row i hi hk _ (rowAt_lt _ _) (by rw [ds_row _ _ (by have := ds_lt (home (t.k i)) i; omega)]; exact hj)
theorem RT.of_ok {t : Tb} (hl : len t ≤ 6) (h : ∀ i, i < 8 → Ok t i) : RT t where
  keys p hp := (h p hp).key
  vals p hp := (h p hp).val
  none p hp := (h p hp).none
  row p hp hk q hq hd := by
    have := (h p hp).row hk (ds (home (t.k p)) q) hd
    rwa [row_ds _ _ hq] at this
  room := hl

set_option maxHeartbeats 4000000 in
set_option maxRecDepth 20000 in
theorem RTRight_is (t : Tb) (b : Bool) (hb : b = true ↔ RT t) (w : World) :
    Calls Tryz.prog 72 #[.agg t.all.toArray] w fun e w' => e = .returned (.bool b) ∧ Below w.heap.size w w' := by
  obtain ⟨na, ea, hd⟩ := rslots_array
  have HD : Hid _ := hd
  clear hd
  have HS : Hid (∀ t : Tb, (Tryz.prog.info? 70).map (·.size) = some t.all.length) := rslots_size
  have HZ : Hid (∀ t : Tb, (Tryz.prog.info? 70).map (·.size) = some t.all.toArray.size) := rslots_size2
  have HT : Hid ((Tryz.prog.info? 68).map (·.size) = some 2) := rslot_size
  have HA : Hid ((Tryz.prog.info? 58).map (·.size) = some 2) := answer_size
  obtain ⟨fs, ha⟩ := answer_struct
  have HDA : Hid _ := ha
  clear ha
  have HB : Hid (b = true ↔ RT t) := hb
  have HX : Hid _ := rslot_at t
  clear hb
  have G0 : Hid (Gd w.heap.size w (w.alloc (.cells t.all.toArray 70))) := (Gd.refl w).new _
  have T0 : Hid (TAt (w.alloc (.cells t.all.toArray 70)) w.heap.size t) := TAt.born w t _
  go_enter Tryz.func72, Tryz.ntmps72
  go_wp2_with (refine wpList_load_mid rfl 70 _ rfl _ _ rfl t.all _ T0.out.range HD.out rfl (HS.out t) ?_)
  generalize w.alloc (.cells t.all.toArray 70) = W at G0 T0 ⊢
  generalize w.heap.size = n at G0 T0 ⊢
  go_loopg [8] 8 (fun gg s8 wt => ∃ i : Nat, i ≤ 8 ∧ 8 - i ≤ gg ∧ s8 = .int .i64 i ∧ Hid (TAt wt n t) ∧ Hid (Gd n w wt) ∧ Hid (∀ j, j < i → Ok t j))
  case atStart => exact ⟨0, by omega, by omega, rfl, T0, G0, fun j hj => absurd hj (Nat.not_lt_zero _)⟩
  case round =>
    obtain ⟨i, hi, hgg, rfl, T, G, D⟩ := hrel
    obtain ⟨wq, rfl⟩ : ∃ wq, wq = wr := ⟨_, rfl⟩
    obtain ⟨gk0, rfl⟩ : ∃ gk0, gk0 = gk := ⟨_, rfl⟩
    clear T0 G0
    by_cases hlt : i < 8
    · have hx := HX.out i hlt
      obtain ⟨x, ex⟩ : ∃ x, t.k i = x := ⟨_, rfl⟩
      obtain ⟨y, ey⟩ : ∃ y, t.v i = y := ⟨_, rfl⟩
      have X : Hid (t.k i = x) := ex
      have Y : Hid (t.v i = y) := ey
      rw [ex, ey] at hx
      clear ex ey
      have G2 : Hid (Gd n w (wq.alloc (.cells #[.int .i64 x, .int .i64 y] 68))) := G.out.new _
      have T2 : Hid (TAt (wq.alloc (.cells #[.int .i64 x, .int .i64 y] 68)) n t) := T.out.new _
      have S2 : Hid (Bo (wq.alloc (.cells #[.int .i64 x, .int .i64 y] 68)) wq.heap.size [.int .i64 x, .int .i64 y]) := Bo.born wq [.int .i64 x, .int .i64 y] _ rfl
      have hmn : n < wq.heap.size := T.out.lt
      have c0 := S2.out.at 0 rfl
      have c1 := S2.out.at 1 rfl
      have D' : Hid (Ok t i → ∀ j, j < i + 1 → Ok t j) := fun ho j hj => by
        by_cases e : j = i
        · subst e; exact ho
        · exact D.out j (by omega)
      clear D T G
      by_cases hk : 0 ≤ x ∧ x ≤ 1000
      · have WY := rwithin_yes x 0 1000
        by_cases hv : 0 ≤ y ∧ y ≤ 4294967295
        · have WV := rwithin_yes y 0 4294967295
          by_cases h0 : x = 0
          · by_cases hy0 : y = 0
            · have OK : Hid (Ok t i) := ⟨by rw [X.out]; exact hk, by rw [Y.out]; exact hv, fun _ => by rw [Y.out, hy0], fun hn => absurd (X.out.trans h0) hn⟩
              subst h0 hy0
              go_wp2_with fail
              refine (WY _ hk.1 hk.2).mono ?_
              rintro e ux ⟨rfl, hw⟩
              rw [hw]; clear hw ux
              go_wp2_with fail
              refine (WV _ hv.1 hv.2).mono ?_
              rintro e ux ⟨rfl, hw⟩
              rw [hw]; clear hw ux
              go_wp2
              go_roundg (8 - (i + 1))
              case measure => omega
              case rel => exact ⟨i + 1, by omega, by omega, by go_num, T2, G2, D'.out OK.out⟩
            · have m0 : (x == 0) = true := by simp [h0]
              have e : b = false := by
                cases b with
                | false => rfl
                | true => exact absurd (HB.out.1 rfl) (fun hr => hy0 (by have := (hr.ok hlt).none; rw [X.out, Y.out] at this; exact this h0))
              subst e
              have my : (y == 0) = false := by simp [hy0]
              have my2 : (y != 0) = true := by simp [hy0]
              clear h0 hy0
              go_wp2_with fail
              refine (WY _ hk.1 hk.2).mono ?_
              rintro e ux ⟨rfl, hw⟩
              rw [hw]; clear hw ux
              go_wp2_with fail
              refine (WV _ hv.1 hv.2).mono ?_
              rintro e ux ⟨rfl, hw⟩
              rw [hw]; clear hw ux
              go_wp2
              go_ret
              exact ⟨rfl, G2.out.2⟩
          · have m0 : (x == 0) = false := by simp [h0]
            have H0 : Hid (x ≠ 0) := h0
            have RW := row_is x hk.1 hk.2
            have KV : Hid ((0 ≤ x ∧ x ≤ 1000) ∧ 0 ≤ y ∧ y ≤ 4294967295) := ⟨hk, hv⟩
            clear h0
            go_wp2_with fail
            refine (WY _ hk.1 hk.2).mono ?_
            rintro e ux ⟨rfl, hw⟩
            rw [hw]; clear hw ux
            go_wp2_with fail
            refine (WV _ hv.1 hv.2).mono ?_
            rintro e ux ⟨rfl, hw⟩
            rw [hw]; clear hw ux
            go_wp2_with fail
            refine (RW _).mono ?_
            rintro e W3 ⟨v, rfl, hi3, hb3⟩
            obtain ⟨bb, off, c, rfl, hcell⟩ := rowL_isL hi3
            have T3 : Hid (TAt W3 n t) := T2.out.later hb3
            have G3 : Hid (Gd n w W3) := G2.out.later hb3
            have S3 : Hid (Bo W3 wq.heap.size [.int .i64 x, .int .i64 y]) := S2.out.later hb3
            have C3 : Hid (∀ j, j < 8 → W3.cell? ⟨bb, off + j, none⟩ = some (.int .i64 (rowAt x j : Nat))) := hcell
            clear hi3 hb3 hcell RW WY WV T2 G2 S2 c0 c1 hk hv
            generalize wq.heap.size = m at S3 hmn ⊢
            obtain ⟨d, hd⟩ : ∃ d, ds (home x) i = d := ⟨_, rfl⟩
            have HDS : Hid (ds (home x) i = d) := hd
            have hd8 : d < 8 := hd ▸ ds_lt _ _
            clear hd
            go_wp2_with fail
            go_loopg [39] 8 (fun gg s39 wt => ∃ j : Nat, j ≤ d ∧ 8 - j ≤ gg ∧ s39 = .int .i64 j ∧ Hid (TAt wt n t) ∧ Hid (Bo wt m [.int .i64 x, .int .i64 y]) ∧ Hid (Gd n w wt) ∧ Hid (∀ j, j < 8 → wt.cell? ⟨bb, off + j, none⟩ = some (.int .i64 (rowAt x j : Nat))) ∧ Hid (∀ l, l < j → ¬ Hit t x (rowAt x l)))
            case atStart => exact ⟨0, by omega, by omega, rfl, T3, S3, G3, C3, fun l hl => absurd hl (Nat.not_lt_zero _)⟩
            case round =>
              obtain ⟨j, hj, hgj, rfl, T, S, G, C, E⟩ := hrel
              clear T3 G3 S3 C3
              have hj1 : (j : Int) < 8 := by omega
              have hj0 : (0 : Int) ≤ (j : Int) := by omega
              have cj := C.out j (by omega)
              have hp := rowAt_lt x j
              obtain ⟨p, hpe⟩ : ∃ p, rowAt x j = p := ⟨_, rfl⟩
              have EP : Hid (rowAt x j = p) := hpe
              rw [hpe] at cj hp
              clear hpe
              have hp1 : (p : Int) < 8 := by omega
              have hp0 : (0 : Int) ≤ (p : Int) := by omega
              by_cases hjd : j = d
              · have epi : p = i := by rw [← EP.out, hjd, ← HDS.out]; exact row_ds x i hlt
                have mp : ((p : Int) == (i : Int)) = true := by simp [epi]
                have OK : Hid (Ok t i) := ⟨by rw [X.out]; exact KV.out.1, by rw [Y.out]; exact KV.out.2, fun h => absurd (X.out.symm.trans h) H0.out, fun _ l hl => by rw [X.out] at hl ⊢; exact E.out l (by rw [HDS.out] at hl; omega)⟩
                clear epi hjd
                go_wp2
                go_roundg (8 - (i + 1))
                case measure => omega
                case rel => exact ⟨i + 1, by omega, by omega, by go_num, T, G, D'.out OK.out⟩
              · have epi : p ≠ i := by
                  intro e
                  have h1 := ds_row x j (by omega)
                  rw [EP.out, e, HDS.out] at h1
                  omega
                have mp : ((p : Int) == (i : Int)) = false := by
                  have : ¬ ((p : Int) = (i : Int)) := by omega
                  simp [this]
                have cz := T.out.key hp
                obtain ⟨z, hz⟩ : ∃ z, t.k p = z := ⟨_, rfl⟩
                have Zf : Hid (t.k p = z) := hz
                rw [hz] at cz
                have cs := S.out.at 0 rfl
                clear hz epi
                by_cases hh : z = x ∨ z = 0
                · have e : b = false := by
                    cases b with
                    | false => rfl
                    | true =>
                      have := ((HB.out.1 rfl).ok hlt).row (by rw [X.out]; exact H0.out) j (by rw [X.out, HDS.out]; omega)
                      rw [X.out, EP.out] at this
                      exact absurd (show Hit t x p by unfold Hit; rw [Zf.out]; exact hh) this
                  subst e
                  by_cases hz0 : z = 0
                  · have m1 : (z == 0) = true := by simp [hz0]
                    clear hh hz0
                    go_wp2_with fail
                    go_quiet (fail)
                    go_wp2
                    go_ret
                    exact ⟨rfl, (G.out.drewN _).2⟩
                  · have m1 : (z == 0) = false := by simp [hz0]
                    have m2 : (z == x) = true := by simp [hh.resolve_right hz0]
                    clear hh hz0
                    go_wp2_with fail
                    go_quiet (fail)
                    go_wp2
                    go_ret
                    exact ⟨rfl, (G.out.drewN _).2⟩
                · have m1 : (z == 0) = false := by simp; exact fun e => hh (Or.inr e)
                  have m2 : (z == x) = false := by simp; exact fun e => hh (Or.inl e)
                  have NH : Hid (¬ Hit t x (rowAt x j)) := by show ¬ Hit t x (rowAt x j); rw [EP.out]; unfold Hit; rw [Zf.out]; exact hh
                  clear hh
                  go_wp2_with fail
                  go_quiet (fail)
                  go_wp2
                  go_roundg (8 - (j + 1))
                  case measure => omega
                  case rel =>
                    refine ⟨j + 1, by omega, by omega, by go_num, T.out.drewN _, S.out.drewN _, G.out.drewN _, fun l hl => C.out l hl, fun l hl => ?_⟩
                    by_cases e : l = j
                    · subst e; exact NH.out
                    · exact E.out l (by omega)
        · have e : b = false := by
            cases b with
            | false => rfl
            | true => exact absurd (HB.out.1 rfl) (fun hr => hv (by have := (hr.ok hlt).val; rw [Y.out] at this; exact this))
          subst e
          have hv2 : y < 0 ∨ 4294967295 < y := by omega
          have WN := rwithin_no y 0 4294967295
          clear hv
          go_wp2_with fail
          refine (WY _ hk.1 hk.2).mono ?_
          rintro e ux ⟨rfl, hw⟩
          rw [hw]; clear hw ux
          go_wp2_with fail
          refine (WN _ hv2).mono ?_
          rintro e ux ⟨rfl, hw⟩
          rw [hw]; clear hw ux
          go_wp2
          go_ret
          exact ⟨rfl, G2.out.2⟩
      · have e : b = false := by
          cases b with
          | false => rfl
          | true => exact absurd (HB.out.1 rfl) (fun hr => hk (by have := (hr.ok hlt).key; rw [X.out] at this; exact this))
        subst e
        have hk2 : x < 0 ∨ 1000 < x := by omega
        have WN := rwithin_no x 0 1000
        clear hk
        go_wp2_with fail
        refine (WN _ hk2).mono ?_
        rintro e ux ⟨rfl, hw⟩
        rw [hw]; clear hw ux
        go_wp2
        go_ret
        exact ⟨rfl, G2.out.2⟩
    · obtain rfl : i = 8 := by omega
      have RL := RLen_is t
      obtain ⟨l, hl⟩ : ∃ l, len t = l := ⟨_, rfl⟩
      have hl8 : l ≤ 8 := hl ▸ len_le t
      have HL : Hid (len t = l) := hl
      rw [hl] at RL
      clear hl
      go_wp2_with (refine wpList_load_mid rfl 70 _ rfl _ _ rfl t.all _ T.out.range HD.out rfl (HS.out t) ?_)
      refine (RL _).mono ?_
      rintro e w3 ⟨rfl, hb3⟩
      have G3 : Hid (Gd n w w3) := G.out.later hb3
      clear hb3
      by_cases h6 : l ≤ 6
      · have e : b = true := HB.out.2 (RT.of_ok (by rw [HL.out]; exact h6) D.out)
        subst e
        have h61 : (l : Int) ≤ 6 := by omega
        go_wp2
        go_ret
        exact ⟨by first | rfl | exact congrArg (fun b => Ending.returned (.bool b)) (decide_eq_true h61), G3.out.2⟩
      · have e : b = false := by
          cases b with
          | false => rfl
          | true => have := (HB.out.1 rfl).room; rw [HL.out] at this; omega
        subst e
        have h61 : ¬ (l : Int) ≤ 6 := by omega
        go_wp2
        go_ret
        exact ⟨by first | rfl | exact congrArg (fun b => Ending.returned (.bool b)) (decide_eq_false (by omega)), G3.out.2⟩
end Go.Proofs.YteogbpaaacmllaaGreatDoor.Tab
namespace Go.Proofs.YteogbpaaacmllaaGreatDoor.Tab
set_option maxRecDepth 20000
open Go.RowKit
set_option linter.unusedVariables false

theorem rwK (kind : Int) : Rw Tryz.prog 72 [.int .i64 kind, .slice none 0 0, .int .i64 0, .int .i64 0, .int .i64 0, .int .i64 0, .int .i64 0, .int .i64 0, .int .i64 0, .int .i64 0, .int .i64 0, .int .i64 0, .int .i64 0, .int .i64 0, .int .i64 0, .int .i64 0, .int .i64 0, .int .i64 0, .int .i64 0] := by rw [← tg_nil]; exact rwTh kind rfl _ _
theorem lst_le {c : Nat → Nat} (hm : ∀ j, j < 17 → c j ≤ 4294967295) (h6 : c 0 ≤ 6) : ∀ x ∈ lst c, 0 ≤ x ∧ x ≤ 4294967295 := fun x hx => by
  simp only [lst, List.mem_map, List.mem_range] at hx
  obtain ⟨i, hi, rfl⟩ := hx
  have := hm (i + 1) (by omega)
  omega
theorem lsq_take (c : Nat → Nat) {i : Nat} (h : i < c 0) : (lst c).take i ++ [((c (i + 1) : Nat) : Int)] = (lst c).take (i + 1) := by
  have := take_more (lst c) i (by rw [lst_length]; exact h)
  rw [lst_at c h] at this
  exact this
def tbq (c : Nat → Nat) (i : Nat) : Tb := ⟨fun p => if p < i then (c (2 * p) : Nat) else 0, fun p => if p < i then (c (2 * p + 1) : Nat) else 0⟩
theorem tbq_zero (c : Nat → Nat) : tbq c 0 = Tb.zero := by
  unfold tbq Tb.zero; congr 1 <;> (funext p; simp)
theorem tbq_next (c : Nat → Nat) (i : Nat) : (tbq c i).set i (c (2 * i) : Nat) (c (2 * i + 1) : Nat) = tbq c (i + 1) := by
  unfold tbq Tb.set; congr 1 <;>
  · funext p
    by_cases e : p = i
    · subst e; simp
    · by_cases h : p < i
      · simp [e, h, show p < i + 1 by omega]
      · simp [e, h, show ¬ p < i + 1 by omega]
theorem tbq_all (c : Nat → Nat) : (tbq c 8).all = (tbl c).all := by
  unfold Tb.all
  refine List.map_congr_left fun j hj => ?_
  have : j / 2 < 8 := by have : j < 16 := by simpa using hj
                         omega
  simp [Tb.at, tbq, tbl, this]
theorem tbq_tg (c : Nat → Nat) (k : Int) (v : Value) (x : Int) : tg k v (tbq c 8) x = tg k v (tbl c) x := by unfold tg; rw [tbq_all]
theorem tg_off (k : Int) (v : Value) (t : Tb) (x : Int) {j : Nat} (hj : j < 16) : (tg k v t x)[j + 2]? = some (t.at j) := by rw [Nat.add_comm]; exact tg_at k v t x hj
theorem tg_slot (k : Int) (v : Value) (t : Tb) (x : Int) {i : Nat} (hi : i < 8) (a b : Int) : ((tg k v t x).set (2 + i * 2) (.int .i64 a)).set (2 + i * 2 + 1) (.int .i64 b) = tg k v (t.set i a b) x := by
  apply List.ext_getElem?
  intro j
  rcases j with _ | _ | j
  · simp [tg]
  · simp [tg, show ¬ 2 + i * 2 = 1 by omega]
  · by_cases hj : j < 16
    · rw [tg_off _ _ _ _ hj, List.getElem?_set, List.getElem?_set, List.length_set, tg_length, tg_off _ _ _ _ hj]
      unfold Tb.at Tb.set
      by_cases e1 : 2 + i * 2 + 1 = j + 2
      · have : j / 2 = i := by omega
        have h2 : ¬ j % 2 = 0 := by omega
        simp [e1, this, h2, show j + 2 < 19 by omega]
      · by_cases e0 : 2 + i * 2 = j + 2
        · have : j / 2 = i := by omega
          have h2 : j % 2 = 0 := by omega
          simp [e0, this, h2, show j + 2 < 19 by omega]
        · have : j / 2 ≠ i := by omega
          have e2 : ¬ 2 + i * 2 = j + 1 := by omega
          simp [e2, e0, this]
    · rw [List.getElem?_set, List.getElem?_set, List.length_set, tg_length]
      rw [if_neg (by omega), if_neg (by omega)]
      by_cases e : j = 16
      · subst e; simp [tg, Tb.all_length]
      · rw [List.getElem?_eq_none (by rw [tg_length]; omega), List.getElem?_eq_none (by rw [tg_length]; omega)]
theorem Bo.tslot {w : World} {b : Nat} {k : Int} {v : Value} {t : Tb} {x : Int} (h : Bo w b (tg k v t x)) {i : Nat} (hi : i < 8) (a c : Int) : Bo ((w.setCell ⟨b, 2 + i * 2, none⟩ (.int .i64 a)).setCell ⟨b, 2 + i * 2 + 1, none⟩ (.int .i64 c)) b (tg k v (t.set i a c) x) := by
  rw [← tg_slot k v t x hi a c]
  have h1 := h.set1 (x := .int .i64 a) (j := 2 + i * 2) (by rw [tg_length]; omega) rfl
  exact h1.set1 (x := .int .i64 c) (j := 2 + i * 2 + 1) (by rw [List.length_set, tg_length]; omega) rfl
set_option maxHeartbeats 4000000 in
theorem ThingOf_bad {kind : Int} (h : kind < 1 ∨ 6 < kind) {bc oc kc : Nat} (w : World) :
    Calls Tryz.prog 50 #[.int .i64 kind, .slice (some ⟨bc, oc, none⟩) 17 kc] w fun e w' => ∃ v t x, v.oneCell' = true ∧ e = .returned (.tuple #[.agg (tg kind v t x).toArray, .bool false]) ∧ Below w.heap.size w w' := by
  have hM : Hid _ := (((Ms.nil w).bornR (tg_zero 0).symm 72 (b := w.heap.size) rfl).bornR (tg_zero 0).symm 72 (b := w.heap.size + 1) (by simp))
  go_enter Tryz.func50, Tryz.ntmps50
  go_wp2_with (first
    | (refine sR rfl (hM.out.at 0 rfl) rfl (rwN.len (rwK kind)) (rwK kind) ?_
       replace hM := hid (hM.out.put 0 rfl _ (rwN.len (rwK kind)))
       generalize World.setCells _ _ _ _ = W at hM ⊢
       rw [← tg_nil] at hM))
  generalize hsz : w.heap.size = n at hM ⊢
  clear hsz
  refine (rwithin_no kind 1 6 _ h).mono ?_
  rintro e ux ⟨rfl, hw⟩
  rw [hw]; clear hw ux
  go_wp2_with (first
    | (refine lR rfl (hM.out.at 0 rfl) rfl (rwTh kind rfl _ _) ?_)
    | (refine sR rfl (hM.out.at 1 rfl) rfl (rwN.len (rwTh kind rfl _ _)) (rwTh kind rfl _ _) ?_
       replace hM := hid (hM.out.put 1 rfl (tg kind (.slice none 0 0) Tb.zero 0) (rwN.len (rwTh kind rfl _ _)))
       generalize World.setCells _ _ _ _ = W at hM ⊢))
  exact bodyPost_ret (res1s Tryz.results50 (hM.out.at 1 rfl) (rwTh kind rfl _ _) (.bool false)) rfl ⟨(.slice none 0 0), Tb.zero, 0, rfl, rfl, hM.out.below⟩
set_option maxHeartbeats 4000000 in
theorem ThingOf_big {kind : Int} (hk : 1 ≤ kind ∧ kind ≤ 6) {bc oc kc : Nat} {c : Nat → Nat} {w : World} (hc : Wf w bc oc c) (hj : ∃ j, j < 17 ∧ 4294967295 < c j) :
    Calls Tryz.prog 50 #[.int .i64 kind, .slice (some ⟨bc, oc, none⟩) 17 kc] w fun e w' => ∃ v t x, v.oneCell' = true ∧ e = .returned (.tuple #[.agg (tg kind v t x).toArray, .bool false]) ∧ Below w.heap.size w w' := by
  have HJ : Hid _ := hj
  have hC : Hid _ := hc
  clear hj hc
  have hM : Hid _ := (((Ms.nil w).bornR (tg_zero 0).symm 72 (b := w.heap.size) rfl).bornR (tg_zero 0).symm 72 (b := w.heap.size + 1) (by simp))
  go_enter Tryz.func50, Tryz.ntmps50
  go_wp2_with (first
    | (refine sR rfl (hM.out.at 0 rfl) rfl (rwN.len (rwK kind)) (rwK kind) ?_
       replace hM := hid (hM.out.put 0 rfl _ (rwN.len (rwK kind)))
       generalize World.setCells _ _ _ _ = W at hM ⊢
       rw [← tg_nil] at hM))
  generalize hsz : w.heap.size = n at hM ⊢
  clear hsz
  refine (rwithin_yes kind 1 6 _ hk.1 hk.2).mono ?_
  rintro e ux ⟨rfl, hw⟩
  rw [hw]; clear hw ux
  go_wp2_with fail
  go_loopg [19] 17 (fun gg s19 wt => wt = W ∧ ∃ i : Nat, i ≤ 17 ∧ 17 - i ≤ gg ∧ s19 = .int .i64 i ∧ Hid (∀ j, j < i → c j ≤ 4294967295))
  case atStart => exact ⟨rfl, 0, by omega, by omega, rfl, fun j hj => absurd hj (by omega)⟩
  case round =>
    obtain ⟨rfl, i, hi, hgg, rfl, U⟩ := hrel
    by_cases hlt : i < 17
    · have g0 := (hC.out.later hM.out.below).cell i hlt
      have hi1 : (i : Int) < 17 := by omega
      have hi0 : (0 : Int) ≤ (i : Int) := by omega
      by_cases hle : c i ≤ 4294967295
      · have U' : Hid (∀ j, j < i + 1 → c j ≤ 4294967295) := fun j hj => by
          by_cases e : j = i
          · subst e; exact hle
          · exact U.out j (by omega)
        have hd : ¬ 4294967295 < ((c i : Nat) : Int) := by omega
        clear U
        generalize c i = x at g0 hd hle
        clear hle
        go_wp2
        go_roundg (17 - (i + 1))
        case measure => omega
        case rel => exact ⟨rfl, i + 1, by omega, by omega, by go_num, U'⟩
      · have hd : 4294967295 < ((c i : Nat) : Int) := by omega
        generalize c i = x at g0 hd hle
        clear hle U
        go_wp2_with (first
          | (refine lR rfl (hM.out.at 0 rfl) rfl (rwTh kind rfl _ _) ?_)
          | (refine sR rfl (hM.out.at 1 rfl) rfl (rwN.len (rwTh kind rfl _ _)) (rwTh kind rfl _ _) ?_
             replace hM := hid (hM.out.put 1 rfl (tg kind (.slice none 0 0) Tb.zero 0) (rwN.len (rwTh kind rfl _ _)))
             generalize World.setCells _ _ _ _ = W at hM ⊢))
        exact bodyPost_ret (res1s Tryz.results50 (hM.out.at 1 rfl) (rwTh kind rfl _ _) (.bool false)) rfl ⟨(.slice none 0 0), Tb.zero, 0, rfl, rfl, hM.out.below⟩
    · obtain rfl : i = 17 := by omega
      obtain ⟨j, h1, h2⟩ := HJ.out
      exact absurd (U.out j h1) (by omega)
set_option maxHeartbeats 4000000 in
theorem ThingOf_6 {bc oc kc : Nat} {c : Nat → Nat} {w : World} {b : Bool} (hc : Wf w bc oc c) (hm : ∀ j, j < 17 → c j ≤ 4294967295) (hv : b = true ↔ ∀ j, j < 17 → tyw (c 0 : Nat) j = c j) {kind : Int} (h6 : kind = 6) :
    Calls Tryz.prog 50 #[.int .i64 kind, .slice (some ⟨bc, oc, none⟩) 17 kc] w fun e w' => e = .returned (.tuple #[.agg (tg 6 (.slice none 0 0) Tb.zero (c 0 : Nat)).toArray, .bool b]) ∧ Below w.heap.size w w' := by
  have hk : 1 ≤ kind ∧ kind ≤ 6 := by omega
  have H6 : Hid _ := h6
  have HV : Hid _ := hv
  have HM : Hid _ := hm
  have hC : Hid _ := hc
  have CC : Hid (∀ (v : Value) (t : Tb) w, _) := fun v t w => Cells_6 v t (c 0) (hm 0 (by decide)) w
  clear h6 hv hm hc
  have hM : Hid _ := (((Ms.nil w).bornR (tg_zero 0).symm 72 (b := w.heap.size) rfl).bornR (tg_zero 0).symm 72 (b := w.heap.size + 1) (by simp))
  go_enter Tryz.func50, Tryz.ntmps50
  go_wp2_with (first
    | (refine sR rfl (hM.out.at 0 rfl) rfl (rwN.len (rwK kind)) (rwK kind) ?_
       replace hM := hid (hM.out.put 0 rfl _ (rwN.len (rwK kind)))
       generalize World.setCells _ _ _ _ = W at hM ⊢
       rw [← tg_nil] at hM))
  generalize hsz : w.heap.size = n at hM ⊢
  clear hsz
  refine (rwithin_yes kind 1 6 _ hk.1 hk.2).mono ?_
  rintro e ux ⟨rfl, hw⟩
  rw [hw]; clear hw ux
  go_wp2_with fail
  go_loopg [19] 17 (fun gg s19 wt => wt = W ∧ ∃ i : Nat, i ≤ 17 ∧ 17 - i ≤ gg ∧ s19 = .int .i64 i ∧ Hid (∀ j, j < i → c j ≤ 4294967295))
  case atStart => exact ⟨rfl, 0, by omega, by omega, rfl, fun j hj => absurd hj (by omega)⟩
  case round =>
    obtain ⟨rfl, i, hi, hgg, rfl, U⟩ := hrel
    by_cases hlt : i < 17
    · have g0 := (hC.out.later hM.out.below).cell i hlt
      have hi1 : (i : Int) < 17 := by omega
      have hi0 : (0 : Int) ≤ (i : Int) := by omega
      by_cases hle : c i ≤ 4294967295
      · have U' : Hid (∀ j, j < i + 1 → c j ≤ 4294967295) := fun j hj => by
          by_cases e : j = i
          · subst e; exact hle
          · exact U.out j (by omega)
        have hd : ¬ 4294967295 < ((c i : Nat) : Int) := by omega
        clear U
        generalize c i = x at g0 hd hle
        clear hle
        go_wp2
        go_roundg (17 - (i + 1))
        case measure => omega
        case rel => exact ⟨rfl, i + 1, by omega, by omega, by go_num, U'⟩
      · exact absurd (HM.out i hlt) hle
    · obtain rfl : i = 17 := by omega
      clear U hlt
      have h6 := H6.out
      clear H6
      subst h6
      have g0 : wr.cell? ⟨bc, oc, none⟩ = _ := (hC.out.later hM.out.below).cell 0 (by decide)
      have x0 := HM.out 0 (by decide)
      have ey1 : IntKind.i64.wrap ((c 0 : Nat) : Int) = (c 0 : Nat) := by rw [IntKind.wrap_i64]; omega
      have ey2 : wrap64 ((c 0 : Nat) : Int) = (c 0 : Nat) := by unfold wrap64; omega
      go_wp2_with (first
        | (refine s1 rfl (hM.out.at 0 rfl) 18 rfl (.int .i64 (c 0 : Nat)) rfl sz_i ?_ (by rw [tg_length]; decide)
           replace hM := hid (hM.out.put1 0 18 rfl (.int .i64 (c 0 : Nat)) (tg 6 (.slice none 0 0) Tb.zero (c 0 : Nat)) (by rw [tg_length]; decide) (tg_num _ _ _ _ _))
           generalize World.setCell _ _ _ = W at hM ⊢
           clear g0))
      replace hM := hid (hM.out.drew)
      refine wp_region_held_drew (S := fun w' => Bo w' (n + 1) (tg 6 (.slice none 0 0) Tb.zero (c 0 : Nat))) (by kernel_rfl) (hM.out.at 0 rfl) (fun hH => ?_)
      generalize World.drew _ = W at hM hH  ⊢
      refine tkR 0 rfl hH (fun _ h => h) (rwTh 6 rfl _ _) ?_
      simp only [Act.put, p1, p2, p3]
      refine tkR 1 rfl hH (fun _ h => h) (rwTh 6 rfl _ _) ?_
      simp only [Act.put, p1, p2, p3]
      refine tk 3 rfl hH ?_
      simp only [Act.put, p1, p2, p3]
      refine rd1 2 rfl (fun K hK => ?_)
      go_simp
      refine (CC.out _ _ _).mono ?_
      rintro e W ⟨⟨bq, rfl, hq, hW⟩, hb⟩
      replace hM := hid (hM.out.laterB hb hq hW)
      clear hb
      go_wp2_with fail
      refine hK.out _ _ (hM.out.at 1 rfl) (fun hH => ?_)
      clear hK K
      try simp only [Act.put, p1, p2, p3]
      refine rd1 4 rfl (fun K hK => ?_)
      go_simp
      refine (same_wf (hM.out.at 0 rfl) (hC.out.later hM.out.below) _ HV.out).mono ?_
      rintro e W ⟨rfl, hb⟩
      replace hM := hid (hM.out.later hb)
      clear hb
      go_wp2_with fail
      refine hK.out _ _ (hM.out.at 1 rfl) (fun hH => ?_)
      clear hK K
      try simp only [Act.put, p1, p2, p3]
      refine rd1 5 rfl (fun K hK => ?_)
      refine stR rfl (hM.out.at 2 rfl) (rwN.len (rwTh 6 rfl _ _)) (rwTh 6 rfl _ _) ?_
      simp only [Act.put]
      replace hM := hid (hM.out.put 2 rfl (tg 6 (.slice none 0 0) Tb.zero (c 0 : Nat)) (rwN.len (rwTh 6 rfl _ _)))
      refine hK.out _ _ (hM.out.at 1 rfl) (fun hH => ?_)
      clear hK K
      generalize World.setCells _ _ _ _ = W at hM hH ⊢
      try simp only [Act.put, p1, p2, p3]
      refine tk 6 rfl hH ?_
      simp only [Act.put, p1, p2, p3]
      refine wpAnyH_done (by kernel_rfl) ?_ _
      go_wp2
      exact bodyPost_ret (res1s Tryz.results50 (hM.out.at 2 rfl) (rwTh 6 rfl _ _) (.bool _)) rfl ⟨rfl, hM.out.below⟩
set_option maxHeartbeats 8000000 in
theorem ThingOf_5n {bc oc kc : Nat} {c : Nat → Nat} {w : World} {b : Bool} (hc : Wf w bc oc c) (hm : ∀ j, j < 17 → c j ≤ 4294967295) (hr : ¬ RT (tbl c)) {kind : Int} (h5 : kind = 5) :
    Calls Tryz.prog 50 #[.int .i64 kind, .slice (some ⟨bc, oc, none⟩) 17 kc] w fun e w' => e = .returned (.tuple #[.agg (tg 5 (.slice none 0 0) (tbl c) 0).toArray, .bool false]) ∧ Below w.heap.size w w' := by
  have hk : 1 ≤ kind ∧ kind ≤ 6 := by omega
  have H5 : Hid _ := h5
  have HM : Hid _ := hm
  have hC : Hid _ := hc
  have HRT : Hid (∀ w, _) := RTRight_is (tbl c) false ⟨fun h => (by cases h), fun h => absurd h hr⟩
  have NX : Hid (∀ i, _) := fun i => tbq_next c i
  have NZ : Hid _ := tbq_zero c
  have NT : Hid (∀ k v x, _) := fun k v x => tbq_tg c k v x
  clear hm hr h5 hc
  have hM : Hid _ := (((Ms.nil w).bornR (tg_zero 0).symm 72 (b := w.heap.size) rfl).bornR (tg_zero 0).symm 72 (b := w.heap.size + 1) (by simp))
  go_enter Tryz.func50, Tryz.ntmps50
  go_wp2_with (first
    | (refine sR rfl (hM.out.at 0 rfl) rfl (rwN.len (rwK kind)) (rwK kind) ?_
       replace hM := hid (hM.out.put 0 rfl _ (rwN.len (rwK kind)))
       generalize World.setCells _ _ _ _ = W at hM ⊢
       rw [← tg_nil] at hM))
  generalize hsz : w.heap.size = n at hM ⊢
  clear hsz
  refine (rwithin_yes kind 1 6 _ hk.1 hk.2).mono ?_
  rintro e ux ⟨rfl, hw⟩
  rw [hw]; clear hw ux
  go_wp2_with fail
  go_loopg [19] 17 (fun gg s19 wt => wt = W ∧ ∃ i : Nat, i ≤ 17 ∧ 17 - i ≤ gg ∧ s19 = .int .i64 i ∧ Hid (∀ j, j < i → c j ≤ 4294967295))
  case atStart => exact ⟨rfl, 0, by omega, by omega, rfl, fun j hj => absurd hj (by omega)⟩
  case round =>
    obtain ⟨rfl, i, hi, hgg, rfl, U⟩ := hrel
    by_cases hlt : i < 17
    · have g0 := (hC.out.later hM.out.below).cell i hlt
      have hi1 : (i : Int) < 17 := by omega
      have hi0 : (0 : Int) ≤ (i : Int) := by omega
      by_cases hle : c i ≤ 4294967295
      · have U' : Hid (∀ j, j < i + 1 → c j ≤ 4294967295) := fun j hj => by
          by_cases e : j = i
          · subst e; exact hle
          · exact U.out j (by omega)
        have hd : ¬ 4294967295 < ((c i : Nat) : Int) := by omega
        clear U
        generalize c i = x at g0 hd hle
        clear hle
        go_wp2
        go_roundg (17 - (i + 1))
        case measure => omega
        case rel => exact ⟨rfl, i + 1, by omega, by omega, by go_num, U'⟩
      · exact absurd (HM.out i hlt) hle
    · obtain rfl : i = 17 := by omega
      clear U hlt
      have h5 := H5.out
      clear H5
      subst h5
      rw [← NZ.out] at hM
      go_wp2_with fail
      generalize wr = W1 at hM ⊢
      go_loopg [63] 8 (fun gg s63 wt => ∃ i : Nat, i ≤ 8 ∧ 8 - i ≤ gg ∧ s63 = .int .i64 i ∧ Hid (Ms n w wt [(n + 1, tg 5 (.slice none 0 0) (tbq c i) 0), (n, tg 0 (.slice none 0 0) Tb.zero 0)] []))
      case atStart => exact ⟨0, by omega, by omega, rfl, by rw [NZ.out] at hM ⊢; exact hM⟩
      case round =>
        clear hM
        obtain ⟨i, hi, hgg, rfl, hM⟩ := hrel
        by_cases hlt : i < 8
        · have g0 := (hC.out.later hM.out.below).cell (2 * i) (by omega)
          have g1 := (hC.out.later hM.out.below).cell (2 * i + 1) (by omega)
          have x1 := HM.out (2 * i) (by omega)
          have y1 := HM.out (2 * i + 1) (by omega)
          have l0 : wr.cell? ⟨n + 1, 2 + i * 2, none⟩ = some ((tbq c i).at (i * 2)) := hM.out.cell 0 (2 + i * 2) rfl (tg_at _ _ _ _ (show i * 2 < 16 by omega))
          have l1 : wr.cell? ⟨n + 1, 2 + i * 2 + 1, none⟩ = some ((tbq c i).at (i * 2 + 1)) := hM.out.cell 0 (2 + (i * 2 + 1)) rfl (tg_at _ _ _ _ (show i * 2 + 1 < 16 by omega))
          have f0 := hM.out.froz 0 (2 + i * 2) rfl
          have f1 := hM.out.froz 0 (2 + i * 2 + 1) rfl
          have N1 : Hid _ := NX.out i
          replace hM := hid (hM.out.drew)
          generalize c (2 * i) = x at g0 x1 N1
          generalize c (2 * i + 1) = y at g1 y1 N1
          generalize (tbq c i).at (i * 2) = z0 at l0
          generalize (tbq c i).at (i * 2 + 1) = z1 at l1
          have ex1 : IntKind.i64.wrap (x : Int) = x := by rw [IntKind.wrap_i64]; omega
          have ex2 : wrap64 (x : Int) = x := by unfold wrap64; omega
          have ey1 : IntKind.i64.wrap (y : Int) = y := by rw [IntKind.wrap_i64]; omega
          have ey2 : wrap64 (y : Int) = y := by unfold wrap64; omega
          have i1 : (i : Int) < 8 := by omega
          have i0 : (0 : Int) ≤ (i : Int) := by omega
          have i2 : 2 * (i : Int) < 17 := by omega
          have i3 : 2 * (i : Int) + 1 < 17 := by omega
          have i4 : (0 : Int) ≤ 2 * (i : Int) := by omega
          have i5 : (0 : Int) ≤ 2 * (i : Int) + 1 := by omega
          clear x1 y1
          go_wp2_with fail
          go_region
          all_goals go_wp2
          all_goals go_roundg (8 - (i + 1))
          case measure => omega
          case rel => exact ⟨i + 1, by omega, by omega, by go_num, by rw [← N1.out]; exact hM.out.putAt 0 (2 + i * 2) rfl [.int .i64 x, .int .i64 y] _ ((hM.out.at 0 rfl).tslot hlt x y)⟩
        · have ei : i = 8 := by omega
          subst ei
          clear hlt
          rw [NT.out] at hM
          go_wp2_with (first
            | (refine lO rfl (hM.out.at 0 rfl).slots rfl (rwRS (tbl c)) ?_))
          refine (HRT.out _).mono ?_
          rintro e W ⟨rfl, hb⟩
          replace hM := hid (hM.out.later hb)
          clear hb
          go_wp2_with (first
            | (refine lR rfl (hM.out.at 0 rfl) rfl (rwTh 5 rfl _ _) ?_)
            | (refine sR rfl (hM.out.at 1 rfl) rfl (rwN.len (rwTh 5 rfl _ _)) (rwTh 5 rfl _ _) ?_
               replace hM := hid (hM.out.put 1 rfl (tg 5 (.slice none 0 0) (tbl c) 0) (rwN.len (rwTh 5 rfl _ _)))
               generalize World.setCells _ _ _ _ = W at hM ⊢))
          exact bodyPost_ret (res1s Tryz.results50 (hM.out.at 1 rfl) (rwTh 5 rfl _ _) (.bool false)) rfl ⟨rfl, hM.out.below⟩
set_option maxHeartbeats 8000000 in
theorem ThingOf_5 {bc oc kc : Nat} {c : Nat → Nat} {w : World} {b : Bool} (hc : Wf w bc oc c) (hm : ∀ j, j < 17 → c j ≤ 4294967295) (hr : RT (tbl c)) (hv : b = true ↔ ∀ j, j < 17 → tw (tbl c) j = c j) {kind : Int} (h5 : kind = 5) :
    Calls Tryz.prog 50 #[.int .i64 kind, .slice (some ⟨bc, oc, none⟩) 17 kc] w fun e w' => e = .returned (.tuple #[.agg (tg 5 (.slice none 0 0) (tbl c) 0).toArray, .bool b]) ∧ Below w.heap.size w w' := by
  have hk : 1 ≤ kind ∧ kind ≤ 6 := by omega
  have H5 : Hid _ := h5
  have HV : Hid _ := hv
  clear hv
  have HM : Hid _ := hm
  have hC : Hid _ := hc
  have HRT : Hid (∀ w, _) := RTRight_is (tbl c) true ⟨fun _ => hr, fun _ => rfl⟩
  have CC : Hid (∀ (v : Value) (x : Int) w, _) := fun v x w => Cells_5 v (tbl c) x (fun i hi => by have := hm (2 * i) (by omega); simp only [tbl]; omega) (fun i hi => by have := hm (2 * i + 1) (by omega); simp only [tbl]; omega) w
  have NX : Hid (∀ i, _) := fun i => tbq_next c i
  have NZ : Hid _ := tbq_zero c
  have NT : Hid (∀ k v x, _) := fun k v x => tbq_tg c k v x
  clear hm hr h5 hc
  have hM : Hid _ := (((Ms.nil w).bornR (tg_zero 0).symm 72 (b := w.heap.size) rfl).bornR (tg_zero 0).symm 72 (b := w.heap.size + 1) (by simp))
  go_enter Tryz.func50, Tryz.ntmps50
  go_wp2_with (first
    | (refine sR rfl (hM.out.at 0 rfl) rfl (rwN.len (rwK kind)) (rwK kind) ?_
       replace hM := hid (hM.out.put 0 rfl _ (rwN.len (rwK kind)))
       generalize World.setCells _ _ _ _ = W at hM ⊢
       rw [← tg_nil] at hM))
  generalize hsz : w.heap.size = n at hM ⊢
  clear hsz
  refine (rwithin_yes kind 1 6 _ hk.1 hk.2).mono ?_
  rintro e ux ⟨rfl, hw⟩
  rw [hw]; clear hw ux
  go_wp2_with fail
  go_loopg [19] 17 (fun gg s19 wt => wt = W ∧ ∃ i : Nat, i ≤ 17 ∧ 17 - i ≤ gg ∧ s19 = .int .i64 i ∧ Hid (∀ j, j < i → c j ≤ 4294967295))
  case atStart => exact ⟨rfl, 0, by omega, by omega, rfl, fun j hj => absurd hj (by omega)⟩
  case round =>
    obtain ⟨rfl, i, hi, hgg, rfl, U⟩ := hrel
    by_cases hlt : i < 17
    · have g0 := (hC.out.later hM.out.below).cell i hlt
      have hi1 : (i : Int) < 17 := by omega
      have hi0 : (0 : Int) ≤ (i : Int) := by omega
      by_cases hle : c i ≤ 4294967295
      · have U' : Hid (∀ j, j < i + 1 → c j ≤ 4294967295) := fun j hj => by
          by_cases e : j = i
          · subst e; exact hle
          · exact U.out j (by omega)
        have hd : ¬ 4294967295 < ((c i : Nat) : Int) := by omega
        clear U
        generalize c i = x at g0 hd hle
        clear hle
        go_wp2
        go_roundg (17 - (i + 1))
        case measure => omega
        case rel => exact ⟨rfl, i + 1, by omega, by omega, by go_num, U'⟩
      · exact absurd (HM.out i hlt) hle
    · obtain rfl : i = 17 := by omega
      clear U hlt
      have h5 := H5.out
      clear H5
      subst h5
      rw [← NZ.out] at hM
      go_wp2_with fail
      generalize wr = W1 at hM ⊢
      go_loopg [63] 8 (fun gg s63 wt => ∃ i : Nat, i ≤ 8 ∧ 8 - i ≤ gg ∧ s63 = .int .i64 i ∧ Hid (Ms n w wt [(n + 1, tg 5 (.slice none 0 0) (tbq c i) 0), (n, tg 0 (.slice none 0 0) Tb.zero 0)] []))
      case atStart => exact ⟨0, by omega, by omega, rfl, by rw [NZ.out] at hM ⊢; exact hM⟩
      case round =>
        clear hM
        obtain ⟨i, hi, hgg, rfl, hM⟩ := hrel
        by_cases hlt : i < 8
        · have g0 := (hC.out.later hM.out.below).cell (2 * i) (by omega)
          have g1 := (hC.out.later hM.out.below).cell (2 * i + 1) (by omega)
          have x1 := HM.out (2 * i) (by omega)
          have y1 := HM.out (2 * i + 1) (by omega)
          have l0 : wr.cell? ⟨n + 1, 2 + i * 2, none⟩ = some ((tbq c i).at (i * 2)) := hM.out.cell 0 (2 + i * 2) rfl (tg_at _ _ _ _ (show i * 2 < 16 by omega))
          have l1 : wr.cell? ⟨n + 1, 2 + i * 2 + 1, none⟩ = some ((tbq c i).at (i * 2 + 1)) := hM.out.cell 0 (2 + (i * 2 + 1)) rfl (tg_at _ _ _ _ (show i * 2 + 1 < 16 by omega))
          have f0 := hM.out.froz 0 (2 + i * 2) rfl
          have f1 := hM.out.froz 0 (2 + i * 2 + 1) rfl
          have N1 : Hid _ := NX.out i
          replace hM := hid (hM.out.drew)
          generalize c (2 * i) = x at g0 x1 N1
          generalize c (2 * i + 1) = y at g1 y1 N1
          generalize (tbq c i).at (i * 2) = z0 at l0
          generalize (tbq c i).at (i * 2 + 1) = z1 at l1
          have ex1 : IntKind.i64.wrap (x : Int) = x := by rw [IntKind.wrap_i64]; omega
          have ex2 : wrap64 (x : Int) = x := by unfold wrap64; omega
          have ey1 : IntKind.i64.wrap (y : Int) = y := by rw [IntKind.wrap_i64]; omega
          have ey2 : wrap64 (y : Int) = y := by unfold wrap64; omega
          have i1 : (i : Int) < 8 := by omega
          have i0 : (0 : Int) ≤ (i : Int) := by omega
          have i2 : 2 * (i : Int) < 17 := by omega
          have i3 : 2 * (i : Int) + 1 < 17 := by omega
          have i4 : (0 : Int) ≤ 2 * (i : Int) := by omega
          have i5 : (0 : Int) ≤ 2 * (i : Int) + 1 := by omega
          clear x1 y1
          go_wp2_with fail
          go_region
          all_goals go_wp2
          all_goals go_roundg (8 - (i + 1))
          case measure => omega
          case rel => exact ⟨i + 1, by omega, by omega, by go_num, by rw [← N1.out]; exact hM.out.putAt 0 (2 + i * 2) rfl [.int .i64 x, .int .i64 y] _ ((hM.out.at 0 rfl).tslot hlt x y)⟩
        · have ei : i = 8 := by omega
          subst ei
          clear hlt
          rw [NT.out] at hM
          go_wp2_with (first
            | (refine lO rfl (hM.out.at 0 rfl).slots rfl (rwRS (tbl c)) ?_))
          refine (HRT.out _).mono ?_
          rintro e W ⟨rfl, hb⟩
          replace hM := hid (hM.out.later hb)
          clear hb
          go_wp2_with fail
          replace hM := hid (hM.out.drew)
          refine wp_region_held_drew (S := fun w' => Bo w' (n + 1) (tg 5 (.slice none 0 0) (tbl c) 0)) (by kernel_rfl) (hM.out.at 0 rfl) (fun hH => ?_)
          generalize World.drew _ = W at hM hH  ⊢
          refine tkR 0 rfl hH (fun _ h => h) (rwTh 5 rfl _ _) ?_
          simp only [Act.put, p1, p2, p3]
          refine tkR 1 rfl hH (fun _ h => h) (rwTh 5 rfl _ _) ?_
          simp only [Act.put, p1, p2, p3]
          refine tk 3 rfl hH ?_
          simp only [Act.put, p1, p2, p3]
          refine rd1 2 rfl (fun K hK => ?_)
          go_simp
          refine (CC.out _ _ _).mono ?_
          rintro e W ⟨⟨bq, rfl, hq, hW⟩, hb⟩
          replace hM := hid (hM.out.laterB hb hq hW)
          clear hb
          go_wp2_with fail
          refine hK.out _ _ (hM.out.at 1 rfl) (fun hH => ?_)
          clear hK K
          try simp only [Act.put, p1, p2, p3]
          refine rd1 4 rfl (fun K hK => ?_)
          go_simp
          refine (same_wf (hM.out.at 0 rfl) (hC.out.later hM.out.below) _ HV.out).mono ?_
          rintro e W ⟨rfl, hb⟩
          replace hM := hid (hM.out.later hb)
          clear hb
          go_wp2_with fail
          refine hK.out _ _ (hM.out.at 1 rfl) (fun hH => ?_)
          clear hK K
          try simp only [Act.put, p1, p2, p3]
          refine rd1 5 rfl (fun K hK => ?_)
          refine stR rfl (hM.out.at 2 rfl) (rwN.len (rwTh 5 rfl _ _)) (rwTh 5 rfl _ _) ?_
          simp only [Act.put]
          replace hM := hid (hM.out.put 2 rfl (tg 5 (.slice none 0 0) (tbl c) 0) (rwN.len (rwTh 5 rfl _ _)))
          refine hK.out _ _ (hM.out.at 1 rfl) (fun hH => ?_)
          clear hK K
          generalize World.setCells _ _ _ _ = W at hM hH ⊢
          try simp only [Act.put, p1, p2, p3]
          refine tk 6 rfl hH ?_
          simp only [Act.put, p1, p2, p3]
          refine wpAnyH_done (by kernel_rfl) ?_ _
          go_wp2
          exact bodyPost_ret (res1s Tryz.results50 (hM.out.at 2 rfl) (rwTh 5 rfl _ _) (.bool _)) rfl ⟨rfl, hM.out.below⟩
end Go.Proofs.YteogbpaaacmllaaGreatDoor.Tab
namespace Go.Proofs.YteogbpaaacmllaaGreatDoor
set_option maxRecDepth 20000
open Go.RowKit

theorem step_onto {ops : Array Oper} {o : Oper} {a : Act} {w : World} {K : Act → World → Prop} {Q : Exit → Act → World → Prop} {E : Prop}
    (hg : o.guard = none) (s x : Operand) (hop : o.op = Op.call { callee := Callee.builtin Builtin.append, args := #[s, x], argTypes := #[66, 66] })
    {B C : Nat} {v u : Value} {xs ys : List Int} (hs : a.eval s = v) (hx : a.eval x = u) (hB : B ≤ w.heap.size) (h : Own B w v xs) (k : IsL C w u ys) (hn : xs.length + ys.length ≤ 1000000)
    (hK : ∀ v' w', Own B w' v' (xs ++ ys) → Below B w w' → K (a.put o.dst v') w') :
    if Region.wanted o (yielded ops a.tmps) = true then Oper.wp Tryz.prog o a w K Q else E := by
  have hw : Region.wanted o (yielded ops a.tmps) = true := by simp [Region.wanted, hg]
  rw [if_pos hw]
  obtain ⟨v', w', hr, h1, h2⟩ := run_onto o.type hB h k hn
  unfold Oper.wp
  simp [execOp, hop, resolve, invoke, builtin, hs, hx, hr, Result.andThen]
  exact hK v' w' h1 h2
theorem apO {o : Oper} {a : Act} {w : World} {K : Act → World → Prop} {Q : Exit → Act → World → Prop} (s x : Operand) (hop : o.op = Op.call { callee := Callee.builtin Builtin.append, args := #[s, x], argTypes := #[66, 66] })
    {B C : Nat} {v u : Value} {xs ys : List Int} (hB : B ≤ w.heap.size) (h : Own B w v xs) (k : IsL C w u ys) (hs : a.eval s = v) (hx : a.eval x = u) (hn : xs.length + ys.length ≤ 1000000)
    (hK : ∀ v' w', Own B w' v' (xs ++ ys) → Below B w w' → K (a.put o.dst v') w') : o.wp Tryz.prog a w K Q := by
  obtain ⟨v', w', hr, h1, h2⟩ := run_onto o.type hB h k hn
  unfold Oper.wp
  simp [execOp, hop, resolve, invoke, builtin, hs, hx, hr, Result.andThen]
  exact hK v' w' h1 h2
end Go.Proofs.YteogbpaaacmllaaGreatDoor
namespace Go.Proofs.YteogbpaaacmllaaGreatDoor
set_option maxRecDepth 20000
open Go.RowKit

/-- b says whether xs is a heap. -/
structure Says (b : Bool) (xs : List Int) : Prop where
  iff : b = true ↔ xs.length ≤ 6 ∧ Hp xs
theorem Says.yes {xs : List Int} (h : xs.length ≤ 6) (hp : Hp xs) : Says true xs := ⟨fun _ => ⟨h, hp⟩, fun _ => rfl⟩
theorem Says.no {xs : List Int} (h : ¬ (xs.length ≤ 6 ∧ Hp xs)) : Says false xs := ⟨fun h => (by cases h), fun hh => absurd hh h⟩

theorem lit_two (w : World) (x y : Int) (t : TypeId) : (w.alloc (.cells #[.int .i64 x, .int .i64 y] t)).cell? ⟨w.heap.size, 0, none⟩ = some (.int .i64 x) ∧ (w.alloc (.cells #[.int .i64 x, .int .i64 y] t)).cell? ⟨w.heap.size, 1, none⟩ = some (.int .i64 y) := by simp

set_option maxHeartbeats 4000000 in
theorem RRight_is {B : Nat} {w : World} {v : Value} {xs : List Int} (h : IsL B w v xs) (hl : xs.length ≤ 60) :
    Calls Tryz.prog 73 #[v] w fun e w' => ∃ b : Bool, e = .returned (.bool b) ∧ Says b xs ∧ Below w.heap.size w w' := by
  rcases gt_isL h with ⟨rfl, a, c, rfl⟩ | ⟨b, off, c, rfl, h0, hc⟩
  · clear h
    go_enter Tryz.func73, Tryz.ntmps73
    go_wp2_with fail
    go_loopg [8] 0 (fun _ s8 wt => s8 = .int .i64 0 ∧ wt = w)
    case atStart => exact ⟨rfl, rfl⟩
    case round =>
      obtain ⟨rfl, rfl⟩ := hrel
      go_wp2
      go_ret
      exact ⟨true, rfl, Says.yes (by simp) (fun i _ hi => absurd hi (by simp)), Below.refl _ _⟩
  · have C : Hid (∀ j, j < xs.length → w.cell? ⟨b, off + j, none⟩ = some (.int .i64 (gt xs j))) := hc
    clear h hc
    obtain ⟨n, hn⟩ : ∃ n, n = xs.length := ⟨_, rfl⟩
    have N : Hid (n = xs.length) := hn
    rw [← hn] at C h0 hl ⊢
    clear hn
    go_enter Tryz.func73, Tryz.ntmps73
    go_wp2_with fail
    go_loopg [8] n (fun gg s8 wt => ∃ i : Nat, i ≤ n ∧ n - i ≤ gg ∧ s8 = .int .i64 i ∧ Hid (Below w.heap.size w wt) ∧ Hid (∀ k, 0 < k → k < n → (k - 1) / 2 < i → gt xs ((k - 1) / 2) ≤ gt xs k))
    case atStart => exact ⟨0, Nat.zero_le _, by omega, rfl, Below.refl _ _, fun k _ _ hk => absurd hk (by omega)⟩
    case round =>
      obtain ⟨i, hi, hgg, rfl, Q, T⟩ := hrel
      obtain ⟨w1, rfl⟩ : ∃ w1, w1 = wr := ⟨_, rfl⟩
      by_cases hlt : i < n
      · have hi1 : (i : Int) < (n : Int) := by omega
        have hi2 : (0 : Int) ≤ (i : Int) := by omega
        have LB : Hid (Below w1.heap.size w1 (w1.alloc (.cells #[.int .i64 (2 * (i : Int) + 1), .int .i64 (2 * (i : Int) + 2)] 3))) := (Below.refl _ _).alloc (Nat.le_refl _) _
        have LC : Hid ((w1.alloc (.cells #[.int .i64 (2 * (i : Int) + 1), .int .i64 (2 * (i : Int) + 2)] 3)).cell? ⟨w1.heap.size, 0, none⟩ = some (.int .i64 (2 * (i : Int) + 1)) ∧ (w1.alloc (.cells #[.int .i64 (2 * (i : Int) + 1), .int .i64 (2 * (i : Int) + 2)] 3)).cell? ⟨w1.heap.size, 1, none⟩ = some (.int .i64 (2 * (i : Int) + 2))) := lit_two _ _ _ _
        go_wp2_with fail
        generalize w1.alloc (.cells #[.int .i64 (2 * (i : Int) + 1), .int .i64 (2 * (i : Int) + 2)] 3) = W at LB LC ⊢
        obtain ⟨gk0, hgk0⟩ : ∃ gk0, gk0 = gk := ⟨_, rfl⟩
        have GK : Hid (gk = gk0) := hgk0.symm
        go_loopg [19] 2 (fun gg s19 wt => ∃ j : Nat, j ≤ 2 ∧ 2 - j ≤ gg ∧ s19 = .int .i64 j ∧ Hid (Below W.heap.size W wt) ∧ Hid (∀ k, 0 < k → k < n → (k - 1) / 2 < i ∨ k < 2 * i + 1 + j → gt xs ((k - 1) / 2) ≤ gt xs k))
        case atStart => exact ⟨0, Nat.zero_le _, by omega, rfl, Below.refl _ _, fun k k0 k1 hk => T.out k k0 k1 (by omega)⟩
        case round =>
          obtain ⟨j, hj, hgj, rfl, Q2, T2⟩ := hrel
          have Q3 : Hid (Below w.heap.size w wr) := Q.out.trans ((LB.out.trans (Q2.out.mono LB.out.size)).mono Q.out.size)
          by_cases hj2 : j < 2
          · obtain ⟨kk, hkk⟩ : ∃ kk, kk = 2 * i + 1 + j := ⟨_, rfl⟩
            have cj : wr.cell? ⟨w1.heap.size, j, none⟩ = some (.int .i64 (kk : Nat)) := by
              have hblt : w1.heap.size < W.heap.size := World.block_lt_of_cell? _ _ LC.out.1
              rw [Q2.out.cell (p := ⟨w1.heap.size, j, none⟩) hblt]
              have : j = 0 ∨ j = 1 := by omega
              rcases this with rfl | rfl
              · rw [LC.out.1]; congr 2; omega
              · rw [LC.out.2]; congr 2; omega
            have hj0 : (0 : Int) ≤ (j : Int) := by omega
            have hj1 : (j : Int) < 2 := by omega
            have hk0 : (0 : Int) ≤ (kk : Int) := by omega
            have KK : Hid (kk = 2 * i + 1 + j) := hkk
            clear hkk
            by_cases hkn : kk < n
            · have hk1 : (kk : Int) < (n : Int) := by omega
              obtain ⟨x, hx⟩ : ∃ x, gt xs kk = x := ⟨_, rfl⟩
              obtain ⟨y, hy⟩ : ∃ y, gt xs i = y := ⟨_, rfl⟩
              have g1 : wr.cell? ⟨b, off + kk, none⟩ = some (.int .i64 x) := by
                rw [Q3.out.cell (p := ⟨b, off + kk, none⟩) (World.block_lt_of_cell? _ _ (C.out kk hkn)), C.out kk hkn, hx]
              have g2 : wr.cell? ⟨b, off + i, none⟩ = some (.int .i64 y) := by
                rw [Q3.out.cell (p := ⟨b, off + i, none⟩) (World.block_lt_of_cell? _ _ (C.out i hlt)), C.out i hlt, hy]
              have X : Hid (gt xs kk = x ∧ gt xs i = y) := ⟨hx, hy⟩
              clear hx hy
              by_cases hxy : x < y
              · go_wp2_with fail
                go_quiet (fail)
                go_wp2
                go_ret
                refine ⟨false, rfl, Says.no fun ⟨_, hp⟩ => ?_, Q3.out.trans ((below_drewN _ _).mono Q3.out.size)⟩
                have ek := KK.out
                have := hp kk (by omega) (by rw [← N.out]; exact hkn)
                rw [show (kk - 1) / 2 = i by omega, X.out.1, X.out.2] at this
                omega
              · have hd2 : decide (x < y) = false := by simpa using hxy
                go_wp2_with fail
                go_quiet (fail)
                go_wp2
                go_roundg (2 - (j + 1))
                case measure => omega
                case rel =>
                  refine ⟨j + 1, by omega, by omega, by go_num, Q2.out.trans ((below_drewN _ _).mono Q2.out.size), fun k k0 k1 hk => ?_⟩
                  have ek := KK.out
                  by_cases e : k = kk
                  · subst e; rw [show (k - 1) / 2 = i by omega, X.out.1, X.out.2]; omega
                  · exact T2.out k k0 k1 (by omega)
            · have hd2 : decide ((kk : Int) < (n : Int)) = false := by simp; omega
              go_wp2_with fail
              go_quiet (fail)
              go_wp2
              go_roundg (2 - (j + 1))
              case measure => omega
              case rel =>
                refine ⟨j + 1, by omega, by omega, by go_num, Q2.out.trans ((below_drewN _ _).mono Q2.out.size), fun k k0 k1 hk => ?_⟩
                have ek := KK.out
                exact T2.out k k0 k1 (by omega)
          · obtain rfl : j = 2 := by omega
            go_wp2
            go_roundg (n - (i + 1))
            case measure => omega
            case rel => exact ⟨i + 1, by omega, by omega, by go_num, Q3, fun k k0 k1 hk => T2.out k k0 k1 (by omega)⟩
      · obtain rfl : i = n := by omega
        have hp : Hid (Hp xs) := fun k k0 k1 => T.out k k0 (by rw [N.out]; exact k1) (by rw [N.out]; omega)
        by_cases h6 : i ≤ 6
        · have h6i : (i : Int) ≤ 6 := by omega
          go_wp2
          go_ret
          exact ⟨true, rfl, Says.yes (by rw [← N.out]; exact h6) hp.out, Q.out⟩
        · have h6i : ¬ (i : Int) ≤ 6 := by omega
          have h6d : decide ((i : Int) ≤ 6) = false := by simpa using h6i
          go_wp2
          go_ret
          exact Or.inl ⟨rfl, Says.no (fun h => h6 (by rw [N.out]; exact h.1)), Q.out⟩
theorem RRight_yes {B : Nat} {w : World} {v : Value} {xs : List Int} (h : IsL B w v xs) (hl : xs.length ≤ 6) (hp : Hp xs) :
    Calls Tryz.prog 73 #[v] w fun e w' => e = .returned (.bool true) ∧ Below w.heap.size w w' :=
  (RRight_is h (by omega)).mono fun _ _ ⟨b, he, hs, hb⟩ => ⟨by rw [he, hs.iff.2 ⟨hl, hp⟩], hb⟩
theorem RRight_isnt {B : Nat} {w : World} {v : Value} {xs : List Int} (h : IsL B w v xs) (hl : xs.length ≤ 60) (hr : ¬ (xs.length ≤ 6 ∧ Hp xs)) :
    Calls Tryz.prog 73 #[v] w fun e w' => e = .returned (.bool false) ∧ Below w.heap.size w w' :=
  (RRight_is h hl).mono fun _ _ ⟨b, he, hs, hb⟩ => ⟨by
    cases b with
    | false => exact he
    | true => exact absurd (hs.iff.1 rfl) hr, hb⟩
end Go.Proofs.YteogbpaaacmllaaGreatDoor
namespace Go.Proofs.YteogbpaaacmllaaGreatDoor.Tab
set_option maxRecDepth 20000
open Go.RowKit
set_option linter.unusedVariables false

def lwq (l : List Int) (i : Nat) : Nat → Nat := fun j => if j = 0 then l.length else if j ≤ i then (l.getD (j - 1) 0).toNat else 0
theorem lwq_next (l : List Int) (i : Nat) : wl (upw (lwq l i) (1 + i) (l.getD i 0).toNat) = wl (lwq l (i + 1)) := by
  refine wl_congr fun j _ => ?_
  unfold upw lwq
  by_cases e : j = 1 + i
  · subst e
    rw [if_pos rfl, if_neg (by omega), if_pos (by omega), show 1 + i - 1 = i by omega]
  · rw [if_neg e]
    by_cases e0 : j = 0
    · rw [if_pos e0, if_pos e0]
    · rw [if_neg e0, if_neg e0]
      by_cases e1 : j ≤ i
      · rw [if_pos e1, if_pos (by omega)]
      · rw [if_neg e1, if_neg (by omega)]
theorem lwq_all (l : List Int) : wl (lwq l l.length) = wl (lw l) := by
  refine wl_congr fun j _ => ?_
  unfold lwq lw
  by_cases e0 : j = 0
  · rw [if_pos e0, if_pos e0]
  · rw [if_neg e0, if_neg e0]
    by_cases e1 : j ≤ l.length
    · rw [if_pos e1]
    · rw [if_neg e1, List.getD_eq_getElem?_getD, List.getElem?_eq_none (by omega)]; rfl
theorem lwq_zero (l : List Int) : wl (lwq l 0) = (wl wz).set 0 (.int .u64 (l.length : Nat)) := by
  rw [wl_set wz l.length (by decide)]
  refine wl_congr fun j _ => ?_
  unfold lwq upw wz
  by_cases e0 : j = 0
  · rw [if_pos e0, if_pos e0]
  · rw [if_neg e0, if_neg e0, if_neg (by omega)]

set_option maxHeartbeats 2000000 in
theorem Cells_list {B : Nat} {k : Int} (k5 : k ≠ 5) (k6 : k ≠ 6) {v : Value} {l : List Int} (t : Tb) (x : Int) {w : World} (h : IsL B w v l) (h6 : l.length ≤ 6) (hv : ∀ x ∈ l, 0 ≤ x ∧ x ≤ 4294967295) :
    Calls Tryz.prog 55 #[.agg (tg k v t x).toArray] w fun e w' => Wd w.heap.size e w' (lw l) ∧ Below w.heap.size w w' := by
  obtain ⟨a, c, rfl⟩ := h.form
  have HL : Hid (∀ i, i < l.length → ∃ b off, a = some ⟨b, off, none⟩ ∧ (∀ W, Below w.heap.size w W → W.cell? ⟨b, off + i, none⟩ = some (.int .i64 ((l.getD i 0).toNat : Nat)))) := fun i hi => by
    rcases h with ⟨rfl, _⟩ | ⟨b, off, c, h1, hB, h0, hc, hcell, _⟩
    · simp at hi
    · injection h1 with h1 _ _
      refine ⟨b, off, h1, fun W hW => ?_⟩
      have hx := hv (l.getD i 0) (by rw [List.getD_eq_getElem?_getD, List.getElem?_eq_getElem hi]; exact List.getElem_mem hi)
      rw [hW.cell (p := ⟨b, off + i, none⟩) (World.block_lt_of_cell? _ _ (hcell i hi)), hcell i hi]
      congr 2; omega
  have HX : Hid (∀ i, i < l.length → (l.getD i 0).toNat ≤ 4294967295) := fun i hi => by
    have hx := hv (l.getD i 0) (by rw [List.getD_eq_getElem?_getD, List.getElem?_eq_getElem hi]; exact List.getElem_mem hi)
    omega
  clear hv h
  have LZ : Hid _ := lwq_zero l
  obtain ⟨N, hN⟩ : ∃ N, l.length = N := ⟨_, rfl⟩
  have HN : Hid (l.length = N) := hN
  have m5 : (k == 5) = false := by simp [k5]
  have m6 : (k == 6) = false := by simp [k6]
  rw [hN] at HL HX LZ h6 ⊢
  clear k5 k6 hN
  have mk := mk17b w (.cells (tg k (.slice a N c) t x).toArray 72)
  have S0 : Hid (Bo ((w.alloc (.cells (tg k (.slice a N c) t x).toArray 72)).alloc (.cells (wl wz).toArray 22)) w.heap.size (tg k (.slice a N c) t x)) := (Bo.born w (tg k (.slice a N c) t x) _ rfl).new _
  have T0 : Hid (Bo ((w.alloc (.cells (tg k (.slice a N c) t x).toArray 72)).alloc (.cells (wl wz).toArray 22)) (w.heap.size + 1) (wl wz)) := Bo.born _ (wl wz) _ (by simp)
  have S1 : Hid (Bo ((w.alloc (.cells (tg k (.slice a N c) t x).toArray 72)).alloc (.cells ((wl wz).set 0 (.int .u64 N)).toArray 22)) w.heap.size (tg k (.slice a N c) t x)) := (Bo.born w (tg k (.slice a N c) t x) _ rfl).new _
  have T1 : Hid (Bo ((w.alloc (.cells (tg k (.slice a N c) t x).toArray 72)).alloc (.cells ((wl wz).set 0 (.int .u64 N)).toArray 22)) (w.heap.size + 1) (wl (lwq l 0))) := by
    rw [LZ.out]; exact Bo.born _ _ _ (by simp)
  have G1 : Hid (Gd w.heap.size w ((w.alloc (.cells (tg k (.slice a N c) t x).toArray 72)).alloc (.cells ((wl wz).set 0 (.int .u64 N)).toArray 22))) := ((Gd.refl w).new _).new _
  have c0 := S0.out.tcell.1
  have c1 := S0.out.tcell.2.1
  have c2 := S1.out.tcell.2.1
  have d0 := T0.out.word (show 0 < 17 by decide)
  have d1 := T0.out.froz 0
  have ew : IntKind.u64.wrap (N : Int) = N := by rw [IntKind.wrap_u64]; omega
  go_enter Tryz.func55, Tryz.ntmps55
  go_wp2_with fail
  clear c0 c1 c2 d0 d1 S0 T0 mk
  generalize (w.alloc (.cells (tg k (.slice a N c) t x).toArray 72)).alloc (.cells ((wl wz).set 0 (.int .u64 N)).toArray 22) = W at S1 T1 G1 ⊢
  generalize hsz : w.heap.size = n at S1 T1 G1 ⊢
  have HSZ : Hid (w.heap.size = n) := hsz
  clear hsz
  go_loopg [20] N (fun gg s20 wt => ∃ i : Nat, i ≤ N ∧ N - i ≤ gg ∧ s20 = .int .i64 i ∧ Hid (Bo wt (n + 1) (wl (lwq l i))) ∧ Hid (Bo wt n (tg k (.slice a N c) t x)) ∧ Hid (Gd n w wt))
  case atStart => exact ⟨0, by omega, by omega, rfl, T1, S1, G1⟩
  case round =>
    clear T1 S1 G1
    obtain ⟨i, hi, hgg, rfl, T, S, G⟩ := hrel
    by_cases hlt : i < N
    · obtain ⟨b, off, rfl, hc⟩ := HL.out i hlt
      have c0 := hc wr G.out.2
      have NX : Hid _ := lwq_next l i
      have e1 := T.out.word (show 1 + i < 17 by omega)
      have f1 := T.out.froz (1 + i)
      have j1 : (i : Int) + 1 < 17 := by omega
      have j0 : (0 : Int) ≤ (i : Int) + 1 := by omega
      have i1 : (i : Int) < (N : Int) := by omega
      have i0 : (0 : Int) ≤ (i : Int) := by omega
      have T1 : Hid (Bo (wr.setCell ⟨n + 1, 1 + i, none⟩ (.int .u64 ((l.getD i 0).toNat : Nat))) (n + 1) (wl (lwq l (i + 1)))) := by
        rw [← NX.out]; exact T.out.setw _ (by omega)
      have S1 : Hid (Bo (wr.setCell ⟨n + 1, 1 + i, none⟩ (.int .u64 ((l.getD i 0).toNat : Nat))) n (tg k (.slice (some ⟨b, off, none⟩) N c) t x)) := S.out.aside (by simp) _
      have G1 : Hid (Gd n w (wr.setCell ⟨n + 1, 1 + i, none⟩ (.int .u64 ((l.getD i 0).toNat : Nat)))) := G.out.aside (by simp) _
      have hx : (l.getD i 0).toNat ≤ 4294967295 := HX.out i hlt
      rw [Nat.add_comm 1 i] at e1 f1 T1 S1 G1
      clear hc NX T S G
      generalize lwq l i (i + 1) = z at e1
      generalize (l.getD i 0).toNat = y at c0 T1 S1 G1 hx
      have ew2 : IntKind.u64.wrap (y : Int) = y := by rw [IntKind.wrap_u64]; omega
      go_wp2
      go_roundg (N - (i + 1))
      case measure => omega
      case rel => exact ⟨i + 1, by omega, by omega, by go_num, T1, S1, G1⟩
    · have ei : i = N := by omega
      have LA := lwq_all l
      rw [HN.out, ← ei] at LA
      rw [LA] at T
      clear LA
      go_wp2
      go_ret
      exact ⟨⟨n + 1, rfl, by have := HSZ.out; omega, T.out⟩, G.out.2⟩
end Go.Proofs.YteogbpaaacmllaaGreatDoor.Tab
namespace Go.Proofs.YteogbpaaacmllaaGreatDoor.Tab
set_option maxRecDepth 20000
open Go.RowKit
set_option linter.unusedVariables false

set_option maxHeartbeats 8000000 in
theorem ThingOf_long {bc oc kc : Nat} {c : Nat → Nat} {w : World} {b : Bool} {kind : Int} (k5 : 1 ≤ kind ∧ kind ≤ 4) (hc : Wf w bc oc c) (hm : ∀ j, j < 17 → c j ≤ 4294967295) (h6 : 6 < c 0) :
    Calls Tryz.prog 50 #[.int .i64 kind, .slice (some ⟨bc, oc, none⟩) 17 kc] w fun e w' => ∃ v t x, v.oneCell' = true ∧ e = .returned (.tuple #[.agg (tg kind v t x).toArray, .bool false]) ∧ Below w.heap.size w w' := by
  have hk : 1 ≤ kind ∧ kind ≤ 6 := by omega
  have m5 : (kind == 5) = false := by simp; omega
  have m6 : (kind == 6) = false := by simp; omega
  have HK : Hid (kind ≠ 5 ∧ kind ≠ 6) := ⟨by omega, by omega⟩
  have HM : Hid _ := hm
  have H6 : Hid _ := h6
  have hC : Hid _ := hc
  clear k5 hm h6 hc
  have hM : Hid _ := (((Ms.nil w).bornR (tg_zero 0).symm 72 (b := w.heap.size) rfl).bornR (tg_zero 0).symm 72 (b := w.heap.size + 1) (by simp))
  go_enter Tryz.func50, Tryz.ntmps50
  go_wp2_with (first
    | (refine sR rfl (hM.out.at 0 rfl) rfl (rwN.len (rwK kind)) (rwK kind) ?_
       replace hM := hid (hM.out.put 0 rfl _ (rwN.len (rwK kind)))
       generalize World.setCells _ _ _ _ = W at hM ⊢
       rw [← tg_nil] at hM))
  generalize hsz : w.heap.size = n at hM ⊢
  clear hsz
  refine (rwithin_yes kind 1 6 _ hk.1 hk.2).mono ?_
  rintro e ux ⟨rfl, hw⟩
  rw [hw]; clear hw ux
  go_wp2_with fail
  go_loopg [19] 17 (fun gg s19 wt => wt = W ∧ ∃ i : Nat, i ≤ 17 ∧ 17 - i ≤ gg ∧ s19 = .int .i64 i ∧ Hid (∀ j, j < i → c j ≤ 4294967295))
  case atStart => exact ⟨rfl, 0, by omega, by omega, rfl, fun j hj => absurd hj (by omega)⟩
  case round =>
    obtain ⟨rfl, i, hi, hgg, rfl, U⟩ := hrel
    by_cases hlt : i < 17
    · have g0 := (hC.out.later hM.out.below).cell i hlt
      have hi1 : (i : Int) < 17 := by omega
      have hi0 : (0 : Int) ≤ (i : Int) := by omega
      by_cases hle : c i ≤ 4294967295
      · have U' : Hid (∀ j, j < i + 1 → c j ≤ 4294967295) := fun j hj => by
          by_cases e : j = i
          · subst e; exact hle
          · exact U.out j (by omega)
        have hd : ¬ 4294967295 < ((c i : Nat) : Int) := by omega
        clear U
        generalize c i = x at g0 hd hle
        clear hle
        go_wp2
        go_roundg (17 - (i + 1))
        case measure => omega
        case rel => exact ⟨rfl, i + 1, by omega, by omega, by go_num, U'⟩
      · exact absurd (HM.out i hlt) hle
    · obtain rfl : i = 17 := by omega
      clear U hlt
      have g0 : wr.cell? ⟨bc, oc, none⟩ = _ := (hC.out.later hM.out.below).cell 0 (by decide)
      have h6 := H6.out
      have hd : decide ((6 : Int) < ((c 0 : Nat) : Int)) = true := by simp; omega
      generalize c 0 = z at g0 hd
      clear h6
      go_wp2_with (first
        | (refine lR rfl (hM.out.at 0 rfl) rfl (rwTh kind rfl _ _) ?_)
        | (refine sR rfl (hM.out.at 1 rfl) rfl (rwN.len (rwTh kind rfl _ _)) (rwTh kind rfl _ _) ?_
           replace hM := hid (hM.out.put 1 rfl (tg kind (.slice none 0 0) Tb.zero 0) (rwN.len (rwTh kind rfl _ _)))
           generalize World.setCells _ _ _ _ = W at hM ⊢))
      exact bodyPost_ret (res1s Tryz.results50 (hM.out.at 1 rfl) (rwTh kind rfl _ _) (.bool false)) rfl ⟨(.slice none 0 0), Tb.zero, 0, rfl, rfl, hM.out.below⟩
set_option maxHeartbeats 8000000 in
theorem ThingOf_4n {bc oc kc : Nat} {c : Nat → Nat} {w : World} {b : Bool} {kind : Int} (k5 : 1 ≤ kind ∧ kind ≤ 4) (hc : Wf w bc oc c) (hm : ∀ j, j < 17 → c j ≤ 4294967295) (h6 : c 0 ≤ 6) (h4 : kind = 4) (hp : ¬ Hp (lst c)) :
    Calls Tryz.prog 50 #[.int .i64 kind, .slice (some ⟨bc, oc, none⟩) 17 kc] w fun e w' => ∃ v t x, v.oneCell' = true ∧ e = .returned (.tuple #[.agg (tg kind v t x).toArray, .bool false]) ∧ Below w.heap.size w w' := by
  have hk : 1 ≤ kind ∧ kind ≤ 6 := by omega
  have m5 : (kind == 5) = false := by simp; omega
  have m6 : (kind == 6) = false := by simp; omega
  have HK : Hid (kind ≠ 5 ∧ kind ≠ 6) := ⟨by omega, by omega⟩
  have HM : Hid _ := hm
  have H6 : Hid _ := h6
  have hC : Hid _ := hc
  clear k5 hm h6 hc
  have H4 : Hid _ := h4
  have HP : Hid _ := hp
  clear h4 hp
  have LT : Hid (∀ i, i < c 0 → (lst c).take i ++ [((c (i + 1) : Nat) : Int)] = (lst c).take (i + 1)) := fun i hi => lsq_take c hi
  have LL : Hid (∀ i, i ≤ c 0 → ((lst c).take i).length = i) := fun i hi => by rw [List.length_take, lst_length]; omega
  have LE : Hid ((lst c).take (c 0) = lst c) := List.take_of_length_le (by rw [lst_length]; exact Nat.le_refl _)
  have LX : Hid (∀ x ∈ lst c, 0 ≤ x ∧ x ≤ 4294967295) := lst_le (fun j hj => HM.out j hj) H6.out
  have LL0 : Hid _ := lst_length c
  have hM : Hid _ := (((Ms.nil w).bornR (tg_zero 0).symm 72 (b := w.heap.size) rfl).bornR (tg_zero 0).symm 72 (b := w.heap.size + 1) (by simp))
  go_enter Tryz.func50, Tryz.ntmps50
  go_wp2_with (first
    | (refine sR rfl (hM.out.at 0 rfl) rfl (rwN.len (rwK kind)) (rwK kind) ?_
       replace hM := hid (hM.out.put 0 rfl _ (rwN.len (rwK kind)))
       generalize World.setCells _ _ _ _ = W at hM ⊢
       rw [← tg_nil] at hM))
  generalize hsz : w.heap.size = n at hM ⊢
  clear hsz
  refine (rwithin_yes kind 1 6 _ hk.1 hk.2).mono ?_
  rintro e ux ⟨rfl, hw⟩
  rw [hw]; clear hw ux
  go_wp2_with fail
  go_loopg [19] 17 (fun gg s19 wt => wt = W ∧ ∃ i : Nat, i ≤ 17 ∧ 17 - i ≤ gg ∧ s19 = .int .i64 i ∧ Hid (∀ j, j < i → c j ≤ 4294967295))
  case atStart => exact ⟨rfl, 0, by omega, by omega, rfl, fun j hj => absurd hj (by omega)⟩
  case round =>
    obtain ⟨rfl, i, hi, hgg, rfl, U⟩ := hrel
    by_cases hlt : i < 17
    · have g0 := (hC.out.later hM.out.below).cell i hlt
      have hi1 : (i : Int) < 17 := by omega
      have hi0 : (0 : Int) ≤ (i : Int) := by omega
      by_cases hle : c i ≤ 4294967295
      · have U' : Hid (∀ j, j < i + 1 → c j ≤ 4294967295) := fun j hj => by
          by_cases e : j = i
          · subst e; exact hle
          · exact U.out j (by omega)
        have hd : ¬ 4294967295 < ((c i : Nat) : Int) := by omega
        clear U
        generalize c i = x at g0 hd hle
        clear hle
        go_wp2
        go_roundg (17 - (i + 1))
        case measure => omega
        case rel => exact ⟨rfl, i + 1, by omega, by omega, by go_num, U'⟩
      · exact absurd (HM.out i hlt) hle
    · obtain rfl : i = 17 := by omega
      clear U hlt
      have g0 : wr.cell? ⟨bc, oc, none⟩ = _ := (hC.out.later hM.out.below).cell 0 (by decide)
      have h6 := H6.out
      have ez1 : IntKind.i64.wrap ((c 0 : Nat) : Int) = (c 0 : Nat) := by rw [IntKind.wrap_i64]; omega
      have ez2 : wrap64 ((c 0 : Nat) : Int) = (c 0 : Nat) := by unfold wrap64; omega
      have hd : decide ((6 : Int) < ((c 0 : Nat) : Int)) = false := by simp; omega
      have hdn : ¬ (6 : Int) < ((c 0 : Nat) : Int) := by omega
      obtain ⟨z, hz⟩ : ∃ z, c 0 = z := ⟨_, rfl⟩
      rw [hz] at g0 ez1 ez2 hd hdn LT LL LE LL0 h6
      clear hz
      obtain ⟨wq, rfl⟩ : ∃ wq, wq = wr := ⟨_, rfl⟩
      go_wp2_with fail
      clear g0 hd hdn
      have hnw : n + 2 ≤ wq.heap.size := by have := hM.out.len 0 rfl; omega
      go_loopg [37] z (fun gg s37 wt => ∃ i : Nat, i ≤ z ∧ z - i ≤ gg ∧ s37 = .int .i64 i ∧ n + 2 ≤ wt.heap.size ∧ ∃ v, Hid (Own (n + 2) wt v ((lst c).take i)) ∧ Hid (Ms n w wt [(n + 1, tg kind v Tb.zero 0), (n, tg 0 (.slice none 0 0) Tb.zero 0)] []))
      case atStart => exact ⟨0, by omega, by omega, rfl, hnw, (.slice none 0 0), ⟨rfl, Or.inl ⟨rfl, rfl⟩⟩, hM⟩
      case round =>
        clear hM hnw
        obtain ⟨i, hi, hgg, rfl, hnw, v, O, hM⟩ := hrel
        by_cases hlt : i < z
        · have N1 : Hid _ := LT.out i hlt
          have L1 : Hid (((lst c).take i).length + 1 ≤ 1000000) := by have := LL.out i (by omega); show _ + 1 ≤ 1000000; omega
          have x1 := HM.out (i + 1) (by omega)
          have ex1 : IntKind.i64.wrap ((c (i + 1) : Nat) : Int) = (c (i + 1) : Nat) := by rw [IntKind.wrap_i64]; omega
          have ex2 : wrap64 ((c (i + 1) : Nat) : Int) = (c (i + 1) : Nat) := by unfold wrap64; omega
          have i1 : (i : Int) < (z : Int) := by omega
          have j1 : (i : Int) + 1 < 17 := by omega
          have j0 : (0 : Int) ≤ (i : Int) + 1 := by omega
          have j2 : IntKind.i64.wrap ((i : Int) + 1) = (i : Int) + 1 := by rw [IntKind.wrap_i64]; omega
          have j3 : ((i : Int) + 1).toNat = i + 1 := by omega
          generalize (lst c).take i = ys at O N1 L1
          go_wp2_with fail
          generalize wr = W at hM O hnw ⊢
          replace hM := hid (hM.out.drew)
          replace O := hid (Own.drew O.out)
          replace hnw : n + 2 ≤ W.drew.heap.size := hnw
          refine wp_region_held_drew (S := fun w' => Wf w' bc oc c) (by kernel_rfl) (hC.out.later hM.out.below) (fun hH => ?_)
          generalize World.drew _ = W at hM O hnw hH ⊢
          refine tk 0 rfl hH ?_
          simp only [Act.put, p1, p2, p3]
          refine tk 2 rfl hH ?_
          simp only [Act.put, p1, p2, p3]
          refine tk 3 rfl hH ?_
          simp only [Act.put, p1, p2, p3]
          refine tk 4 rfl hH ?_
          simp only [Act.put, p1, p2, p3]
          refine tk 5 rfl hH ?_
          simp only [Act.put, p1, p2, p3]
          refine tk 6 rfl hH ?_ (by intro w h; have c0 := h.cell (i + 1) (by omega); clear h; go_simp; try with_reducible rfl)
          simp only [Act.put, p1, p2, p3]
          refine tk 7 rfl hH ?_
          simp only [Act.put, p1, p2, p3]
          refine rdn [1, 8] ?_
          refine rdc rfl (fun K hK => ?_) ?_
          · have c0 := hM.out.cell 0 1 rfl (tg_1 _ _ _ _)
            go_simp
            clear c0
            refine hK.out _ _ (hC.out.later hM.out.below) (fun hH => ?_)
            clear hK K
            try simp only [Act.put, p1, p2, p3]
            refine rd1 8 rfl (fun K hK => ?_)
            go_simp
            have hI : Hid (IsL 0 (W.alloc (.cells #[.int .i64 (c (i + 1) : Nat)] 3)) (.slice (some ⟨W.heap.size, 0, none⟩) 1 1) [((c (i + 1) : Nat) : Int)]) := IsL.lit W [((c (i + 1) : Nat) : Int)] Nat.zero_lt_one
            replace O := hid (Own.new O.out (.cells #[.int .i64 (c (i + 1) : Nat)] 3))
            replace hM := hid (hM.out.new (.cells #[.int .i64 (c (i + 1) : Nat)] 3))
            replace hnw : n + 2 ≤ (W.alloc (.cells #[.int .i64 (c (i + 1) : Nat)] 3)).heap.size := by simp; omega
            refine hK.out _ _ (hC.out.later hM.out.below) (fun hH => ?_)
            clear hK K
            generalize World.alloc _ _ = W1 at hM hI O hnw hH ⊢
            try simp only [Act.put, p1, p2, p3]
            refine rd1 9 rfl (fun K hK => ?_)
            refine apO (.tmp 41) (.tmp 48) rfl hnw O.out hI.out rfl rfl L1.out ?_
            intro W3 w3 hO3 hb3
            obtain ⟨a3, k3, rfl⟩ := hO3.form
            generalize hl3 : (ys ++ [((c (i + 1) : Nat) : Int)]).length = l3
            rw [hl3] at hO3; clear hl3
            replace hM := hid (hM.out.laterA hb3 (by simp))
            replace hnw : n + 2 ≤ w3.heap.size := Nat.le_trans hnw hb3.size
            clear O hI
            have O : Hid _ := hO3
            clear hO3 hb3
            refine hK.out _ _ (hC.out.later hM.out.below) (fun hH => ?_)
            clear hK K
            try simp only [Act.put, p1, p2, p3]
            refine tk 10 rfl hH ?_
            simp only [Act.put, p1, p2, p3]
            refine rd1 11 rfl (fun K hK => ?_)
            have c0 := hM.out.cell 0 1 rfl (tg_1 _ _ _ _)
            have c1 := hM.out.froz 0 1 rfl
            go_simp
            clear c0 c1
            replace hM := hid (hM.out.put1 0 1 rfl (.slice a3 l3 k3) (tg kind (.slice a3 l3 k3) Tb.zero 0) (by rw [tg_length]; decide) (tg_list _ _ (.slice a3 l3 k3) _ _))
            replace O := hid (Own.aside O.out (p := ⟨n + 1, 1, none⟩) (by simp) (.slice a3 l3 k3))
            refine hK.out _ _ (hC.out.later hM.out.below) (fun hH => ?_)
            clear hK K
            try simp only [p1, p2, p3]
            refine wpAnyH_done (by kernel_rfl) ?_ _
            go_wp2
            go_roundg (z - (i + 1))
            case measure => omega
            case rel => exact ⟨i + 1, by omega, by omega, by go_num, by simpa [World.setCell] using hnw, (.slice a3 l3 k3), by rw [← N1.out]; exact O.out, hM⟩
          refine rdc rfl (fun K hK => ?_) AllReadyH.nil
          go_simp
          have hI : Hid (IsL 0 (W.alloc (.cells #[.int .i64 (c (i + 1) : Nat)] 3)) (.slice (some ⟨W.heap.size, 0, none⟩) 1 1) [((c (i + 1) : Nat) : Int)]) := IsL.lit W [((c (i + 1) : Nat) : Int)] Nat.zero_lt_one
          replace O := hid (Own.new O.out (.cells #[.int .i64 (c (i + 1) : Nat)] 3))
          replace hM := hid (hM.out.new (.cells #[.int .i64 (c (i + 1) : Nat)] 3))
          replace hnw : n + 2 ≤ (W.alloc (.cells #[.int .i64 (c (i + 1) : Nat)] 3)).heap.size := by simp; omega
          refine hK.out _ _ (hC.out.later hM.out.below) (fun hH => ?_)
          clear hK K
          generalize World.alloc _ _ = W1 at hM hI O hnw hH ⊢
          try simp only [Act.put, p1, p2, p3]
          refine rd1 1 rfl (fun K hK => ?_)
          have c0 := hM.out.cell 0 1 rfl (tg_1 _ _ _ _)
          go_simp
          clear c0
          refine hK.out _ _ (hC.out.later hM.out.below) (fun hH => ?_)
          clear hK K
          try simp only [Act.put, p1, p2, p3]
          refine rd1 9 rfl (fun K hK => ?_)
          refine apO (.tmp 41) (.tmp 48) rfl hnw O.out hI.out rfl rfl L1.out ?_
          intro W3 w3 hO3 hb3
          obtain ⟨a3, k3, rfl⟩ := hO3.form
          generalize hl3 : (ys ++ [((c (i + 1) : Nat) : Int)]).length = l3
          rw [hl3] at hO3; clear hl3
          replace hM := hid (hM.out.laterA hb3 (by simp))
          replace hnw : n + 2 ≤ w3.heap.size := Nat.le_trans hnw hb3.size
          clear O hI
          have O : Hid _ := hO3
          clear hO3 hb3
          refine hK.out _ _ (hC.out.later hM.out.below) (fun hH => ?_)
          clear hK K
          try simp only [Act.put, p1, p2, p3]
          refine tk 10 rfl hH ?_
          simp only [Act.put, p1, p2, p3]
          refine rd1 11 rfl (fun K hK => ?_)
          have c0 := hM.out.cell 0 1 rfl (tg_1 _ _ _ _)
          have c1 := hM.out.froz 0 1 rfl
          go_simp
          clear c0 c1
          replace hM := hid (hM.out.put1 0 1 rfl (.slice a3 l3 k3) (tg kind (.slice a3 l3 k3) Tb.zero 0) (by rw [tg_length]; decide) (tg_list _ _ (.slice a3 l3 k3) _ _))
          replace O := hid (Own.aside O.out (p := ⟨n + 1, 1, none⟩) (by simp) (.slice a3 l3 k3))
          refine hK.out _ _ (hC.out.later hM.out.below) (fun hH => ?_)
          clear hK K
          try simp only [p1, p2, p3]
          refine wpAnyH_done (by kernel_rfl) ?_ _
          go_wp2
          go_roundg (z - (i + 1))
          case measure => omega
          case rel => exact ⟨i + 1, by omega, by omega, by go_num, by simpa [World.setCell] using hnw, (.slice a3 l3 k3), by rw [← N1.out]; exact O.out, hM⟩
        · have ei : i = z := by omega
          rw [ei, LE.out] at O
          clear hlt
          have I : Hid (IsL (n + 2) wr v (lst c)) := O.out.isL
          clear O
          have HVO : Hid (v.oneCell' = true) := by obtain ⟨a, k, hv⟩ := I.out.form; rw [hv]; rfl
          have t1 := hM.out.cell 0 1 rfl (tg_1 _ _ _ _)
          have h4 := H4.out
          clear H4
          subst h4
          go_wp2_with fail
          refine (RRight_isnt I.out (by rw [LL0.out]; omega) (fun h => HP.out h.2)).mono ?_
          rintro e W ⟨rfl, hb⟩
          replace I := hid (IsL.later I.out hb)
          replace hM := hid (hM.out.later hb)
          clear hb t1
          go_wp2_with (first
            | (refine lR rfl (hM.out.at 0 rfl) rfl (rwTh 4 HVO.out _ _) ?_)
            | (refine sR rfl (hM.out.at 1 rfl) rfl (rwN.len (rwTh 4 HVO.out _ _)) (rwTh 4 HVO.out _ _) ?_
               replace hM := hid (hM.out.put 1 rfl (tg 4 v Tb.zero 0) (rwN.len (rwTh 4 HVO.out _ _)))
               generalize World.setCells _ _ _ _ = W at hM ⊢))
          exact bodyPost_ret (res1s Tryz.results50 (hM.out.at 1 rfl) (rwTh 4 HVO.out _ _) (.bool false)) rfl ⟨_, Tb.zero, 0, HVO.out, rfl, hM.out.below⟩
set_option maxHeartbeats 8000000 in
theorem ThingOf_4 {bc oc kc : Nat} {c : Nat → Nat} {w : World} {b : Bool} {kind : Int} (k5 : 1 ≤ kind ∧ kind ≤ 4) (hc : Wf w bc oc c) (hm : ∀ j, j < 17 → c j ≤ 4294967295) (h6 : c 0 ≤ 6) (h4 : kind = 4) (hp : Hp (lst c)) (hv : b = true ↔ ∀ j, j < 17 → lw (lst c) j = c j) :
    Calls Tryz.prog 50 #[.int .i64 kind, .slice (some ⟨bc, oc, none⟩) 17 kc] w fun e w' => ∃ v, e = .returned (.tuple #[.agg (tg kind v Tb.zero 0).toArray, .bool b]) ∧ IsL w.heap.size w' v (lst c) ∧ Below w.heap.size w w' := by
  have hk : 1 ≤ kind ∧ kind ≤ 6 := by omega
  have m5 : (kind == 5) = false := by simp; omega
  have m6 : (kind == 6) = false := by simp; omega
  have HK : Hid (kind ≠ 5 ∧ kind ≠ 6) := ⟨by omega, by omega⟩
  have HM : Hid _ := hm
  have H6 : Hid _ := h6
  have hC : Hid _ := hc
  clear k5 hm h6 hc
  have H4 : Hid _ := h4
  have HP : Hid _ := hp
  clear h4 hp
  have HV : Hid _ := hv
  clear hv
  have LT : Hid (∀ i, i < c 0 → (lst c).take i ++ [((c (i + 1) : Nat) : Int)] = (lst c).take (i + 1)) := fun i hi => lsq_take c hi
  have LL : Hid (∀ i, i ≤ c 0 → ((lst c).take i).length = i) := fun i hi => by rw [List.length_take, lst_length]; omega
  have LE : Hid ((lst c).take (c 0) = lst c) := List.take_of_length_le (by rw [lst_length]; exact Nat.le_refl _)
  have LX : Hid (∀ x ∈ lst c, 0 ≤ x ∧ x ≤ 4294967295) := lst_le (fun j hj => HM.out j hj) H6.out
  have LL0 : Hid _ := lst_length c
  have hM : Hid _ := (((Ms.nil w).bornR (tg_zero 0).symm 72 (b := w.heap.size) rfl).bornR (tg_zero 0).symm 72 (b := w.heap.size + 1) (by simp))
  go_enter Tryz.func50, Tryz.ntmps50
  go_wp2_with (first
    | (refine sR rfl (hM.out.at 0 rfl) rfl (rwN.len (rwK kind)) (rwK kind) ?_
       replace hM := hid (hM.out.put 0 rfl _ (rwN.len (rwK kind)))
       generalize World.setCells _ _ _ _ = W at hM ⊢
       rw [← tg_nil] at hM))
  generalize hsz : w.heap.size = n at hM ⊢
  clear hsz
  refine (rwithin_yes kind 1 6 _ hk.1 hk.2).mono ?_
  rintro e ux ⟨rfl, hw⟩
  rw [hw]; clear hw ux
  go_wp2_with fail
  go_loopg [19] 17 (fun gg s19 wt => wt = W ∧ ∃ i : Nat, i ≤ 17 ∧ 17 - i ≤ gg ∧ s19 = .int .i64 i ∧ Hid (∀ j, j < i → c j ≤ 4294967295))
  case atStart => exact ⟨rfl, 0, by omega, by omega, rfl, fun j hj => absurd hj (by omega)⟩
  case round =>
    obtain ⟨rfl, i, hi, hgg, rfl, U⟩ := hrel
    by_cases hlt : i < 17
    · have g0 := (hC.out.later hM.out.below).cell i hlt
      have hi1 : (i : Int) < 17 := by omega
      have hi0 : (0 : Int) ≤ (i : Int) := by omega
      by_cases hle : c i ≤ 4294967295
      · have U' : Hid (∀ j, j < i + 1 → c j ≤ 4294967295) := fun j hj => by
          by_cases e : j = i
          · subst e; exact hle
          · exact U.out j (by omega)
        have hd : ¬ 4294967295 < ((c i : Nat) : Int) := by omega
        clear U
        generalize c i = x at g0 hd hle
        clear hle
        go_wp2
        go_roundg (17 - (i + 1))
        case measure => omega
        case rel => exact ⟨rfl, i + 1, by omega, by omega, by go_num, U'⟩
      · exact absurd (HM.out i hlt) hle
    · obtain rfl : i = 17 := by omega
      clear U hlt
      have g0 : wr.cell? ⟨bc, oc, none⟩ = _ := (hC.out.later hM.out.below).cell 0 (by decide)
      have h6 := H6.out
      have ez1 : IntKind.i64.wrap ((c 0 : Nat) : Int) = (c 0 : Nat) := by rw [IntKind.wrap_i64]; omega
      have ez2 : wrap64 ((c 0 : Nat) : Int) = (c 0 : Nat) := by unfold wrap64; omega
      have hd : decide ((6 : Int) < ((c 0 : Nat) : Int)) = false := by simp; omega
      have hdn : ¬ (6 : Int) < ((c 0 : Nat) : Int) := by omega
      obtain ⟨z, hz⟩ : ∃ z, c 0 = z := ⟨_, rfl⟩
      rw [hz] at g0 ez1 ez2 hd hdn LT LL LE LL0 h6
      clear hz
      obtain ⟨wq, rfl⟩ : ∃ wq, wq = wr := ⟨_, rfl⟩
      go_wp2_with fail
      clear g0 hd hdn
      have hnw : n + 2 ≤ wq.heap.size := by have := hM.out.len 0 rfl; omega
      go_loopg [37] z (fun gg s37 wt => ∃ i : Nat, i ≤ z ∧ z - i ≤ gg ∧ s37 = .int .i64 i ∧ n + 2 ≤ wt.heap.size ∧ ∃ v, Hid (Own (n + 2) wt v ((lst c).take i)) ∧ Hid (Ms n w wt [(n + 1, tg kind v Tb.zero 0), (n, tg 0 (.slice none 0 0) Tb.zero 0)] []))
      case atStart => exact ⟨0, by omega, by omega, rfl, hnw, (.slice none 0 0), ⟨rfl, Or.inl ⟨rfl, rfl⟩⟩, hM⟩
      case round =>
        clear hM hnw
        obtain ⟨i, hi, hgg, rfl, hnw, v, O, hM⟩ := hrel
        by_cases hlt : i < z
        · have N1 : Hid _ := LT.out i hlt
          have L1 : Hid (((lst c).take i).length + 1 ≤ 1000000) := by have := LL.out i (by omega); show _ + 1 ≤ 1000000; omega
          have x1 := HM.out (i + 1) (by omega)
          have ex1 : IntKind.i64.wrap ((c (i + 1) : Nat) : Int) = (c (i + 1) : Nat) := by rw [IntKind.wrap_i64]; omega
          have ex2 : wrap64 ((c (i + 1) : Nat) : Int) = (c (i + 1) : Nat) := by unfold wrap64; omega
          have i1 : (i : Int) < (z : Int) := by omega
          have j1 : (i : Int) + 1 < 17 := by omega
          have j0 : (0 : Int) ≤ (i : Int) + 1 := by omega
          have j2 : IntKind.i64.wrap ((i : Int) + 1) = (i : Int) + 1 := by rw [IntKind.wrap_i64]; omega
          have j3 : ((i : Int) + 1).toNat = i + 1 := by omega
          generalize (lst c).take i = ys at O N1 L1
          go_wp2_with fail
          generalize wr = W at hM O hnw ⊢
          replace hM := hid (hM.out.drew)
          replace O := hid (Own.drew O.out)
          replace hnw : n + 2 ≤ W.drew.heap.size := hnw
          refine wp_region_held_drew (S := fun w' => Wf w' bc oc c) (by kernel_rfl) (hC.out.later hM.out.below) (fun hH => ?_)
          generalize World.drew _ = W at hM O hnw hH ⊢
          refine tk 0 rfl hH ?_
          simp only [Act.put, p1, p2, p3]
          refine tk 2 rfl hH ?_
          simp only [Act.put, p1, p2, p3]
          refine tk 3 rfl hH ?_
          simp only [Act.put, p1, p2, p3]
          refine tk 4 rfl hH ?_
          simp only [Act.put, p1, p2, p3]
          refine tk 5 rfl hH ?_
          simp only [Act.put, p1, p2, p3]
          refine tk 6 rfl hH ?_ (by intro w h; have c0 := h.cell (i + 1) (by omega); clear h; go_simp; try with_reducible rfl)
          simp only [Act.put, p1, p2, p3]
          refine tk 7 rfl hH ?_
          simp only [Act.put, p1, p2, p3]
          refine rdn [1, 8] ?_
          refine rdc rfl (fun K hK => ?_) ?_
          · have c0 := hM.out.cell 0 1 rfl (tg_1 _ _ _ _)
            go_simp
            clear c0
            refine hK.out _ _ (hC.out.later hM.out.below) (fun hH => ?_)
            clear hK K
            try simp only [Act.put, p1, p2, p3]
            refine rd1 8 rfl (fun K hK => ?_)
            go_simp
            have hI : Hid (IsL 0 (W.alloc (.cells #[.int .i64 (c (i + 1) : Nat)] 3)) (.slice (some ⟨W.heap.size, 0, none⟩) 1 1) [((c (i + 1) : Nat) : Int)]) := IsL.lit W [((c (i + 1) : Nat) : Int)] Nat.zero_lt_one
            replace O := hid (Own.new O.out (.cells #[.int .i64 (c (i + 1) : Nat)] 3))
            replace hM := hid (hM.out.new (.cells #[.int .i64 (c (i + 1) : Nat)] 3))
            replace hnw : n + 2 ≤ (W.alloc (.cells #[.int .i64 (c (i + 1) : Nat)] 3)).heap.size := by simp; omega
            refine hK.out _ _ (hC.out.later hM.out.below) (fun hH => ?_)
            clear hK K
            generalize World.alloc _ _ = W1 at hM hI O hnw hH ⊢
            try simp only [Act.put, p1, p2, p3]
            refine rd1 9 rfl (fun K hK => ?_)
            refine apO (.tmp 41) (.tmp 48) rfl hnw O.out hI.out rfl rfl L1.out ?_
            intro W3 w3 hO3 hb3
            obtain ⟨a3, k3, rfl⟩ := hO3.form
            generalize hl3 : (ys ++ [((c (i + 1) : Nat) : Int)]).length = l3
            rw [hl3] at hO3; clear hl3
            replace hM := hid (hM.out.laterA hb3 (by simp))
            replace hnw : n + 2 ≤ w3.heap.size := Nat.le_trans hnw hb3.size
            clear O hI
            have O : Hid _ := hO3
            clear hO3 hb3
            refine hK.out _ _ (hC.out.later hM.out.below) (fun hH => ?_)
            clear hK K
            try simp only [Act.put, p1, p2, p3]
            refine tk 10 rfl hH ?_
            simp only [Act.put, p1, p2, p3]
            refine rd1 11 rfl (fun K hK => ?_)
            have c0 := hM.out.cell 0 1 rfl (tg_1 _ _ _ _)
            have c1 := hM.out.froz 0 1 rfl
            go_simp
            clear c0 c1
            replace hM := hid (hM.out.put1 0 1 rfl (.slice a3 l3 k3) (tg kind (.slice a3 l3 k3) Tb.zero 0) (by rw [tg_length]; decide) (tg_list _ _ (.slice a3 l3 k3) _ _))
            replace O := hid (Own.aside O.out (p := ⟨n + 1, 1, none⟩) (by simp) (.slice a3 l3 k3))
            refine hK.out _ _ (hC.out.later hM.out.below) (fun hH => ?_)
            clear hK K
            try simp only [p1, p2, p3]
            refine wpAnyH_done (by kernel_rfl) ?_ _
            go_wp2
            go_roundg (z - (i + 1))
            case measure => omega
            case rel => exact ⟨i + 1, by omega, by omega, by go_num, by simpa [World.setCell] using hnw, (.slice a3 l3 k3), by rw [← N1.out]; exact O.out, hM⟩
          refine rdc rfl (fun K hK => ?_) AllReadyH.nil
          go_simp
          have hI : Hid (IsL 0 (W.alloc (.cells #[.int .i64 (c (i + 1) : Nat)] 3)) (.slice (some ⟨W.heap.size, 0, none⟩) 1 1) [((c (i + 1) : Nat) : Int)]) := IsL.lit W [((c (i + 1) : Nat) : Int)] Nat.zero_lt_one
          replace O := hid (Own.new O.out (.cells #[.int .i64 (c (i + 1) : Nat)] 3))
          replace hM := hid (hM.out.new (.cells #[.int .i64 (c (i + 1) : Nat)] 3))
          replace hnw : n + 2 ≤ (W.alloc (.cells #[.int .i64 (c (i + 1) : Nat)] 3)).heap.size := by simp; omega
          refine hK.out _ _ (hC.out.later hM.out.below) (fun hH => ?_)
          clear hK K
          generalize World.alloc _ _ = W1 at hM hI O hnw hH ⊢
          try simp only [Act.put, p1, p2, p3]
          refine rd1 1 rfl (fun K hK => ?_)
          have c0 := hM.out.cell 0 1 rfl (tg_1 _ _ _ _)
          go_simp
          clear c0
          refine hK.out _ _ (hC.out.later hM.out.below) (fun hH => ?_)
          clear hK K
          try simp only [Act.put, p1, p2, p3]
          refine rd1 9 rfl (fun K hK => ?_)
          refine apO (.tmp 41) (.tmp 48) rfl hnw O.out hI.out rfl rfl L1.out ?_
          intro W3 w3 hO3 hb3
          obtain ⟨a3, k3, rfl⟩ := hO3.form
          generalize hl3 : (ys ++ [((c (i + 1) : Nat) : Int)]).length = l3
          rw [hl3] at hO3; clear hl3
          replace hM := hid (hM.out.laterA hb3 (by simp))
          replace hnw : n + 2 ≤ w3.heap.size := Nat.le_trans hnw hb3.size
          clear O hI
          have O : Hid _ := hO3
          clear hO3 hb3
          refine hK.out _ _ (hC.out.later hM.out.below) (fun hH => ?_)
          clear hK K
          try simp only [Act.put, p1, p2, p3]
          refine tk 10 rfl hH ?_
          simp only [Act.put, p1, p2, p3]
          refine rd1 11 rfl (fun K hK => ?_)
          have c0 := hM.out.cell 0 1 rfl (tg_1 _ _ _ _)
          have c1 := hM.out.froz 0 1 rfl
          go_simp
          clear c0 c1
          replace hM := hid (hM.out.put1 0 1 rfl (.slice a3 l3 k3) (tg kind (.slice a3 l3 k3) Tb.zero 0) (by rw [tg_length]; decide) (tg_list _ _ (.slice a3 l3 k3) _ _))
          replace O := hid (Own.aside O.out (p := ⟨n + 1, 1, none⟩) (by simp) (.slice a3 l3 k3))
          refine hK.out _ _ (hC.out.later hM.out.below) (fun hH => ?_)
          clear hK K
          try simp only [p1, p2, p3]
          refine wpAnyH_done (by kernel_rfl) ?_ _
          go_wp2
          go_roundg (z - (i + 1))
          case measure => omega
          case rel => exact ⟨i + 1, by omega, by omega, by go_num, by simpa [World.setCell] using hnw, (.slice a3 l3 k3), by rw [← N1.out]; exact O.out, hM⟩
        · have ei : i = z := by omega
          rw [ei, LE.out] at O
          clear hlt
          have I : Hid (IsL (n + 2) wr v (lst c)) := O.out.isL
          clear O
          have HVO : Hid (v.oneCell' = true) := by obtain ⟨a, k, hv⟩ := I.out.form; rw [hv]; rfl
          have t1 := hM.out.cell 0 1 rfl (tg_1 _ _ _ _)
          have h4 := H4.out
          clear H4
          subst h4
          go_wp2_with fail
          refine (RRight_yes I.out (by rw [LL0.out]; omega) HP.out).mono ?_
          rintro e W ⟨rfl, hb⟩
          replace I := hid (IsL.later I.out hb)
          replace hM := hid (hM.out.later hb)
          clear hb t1
          have CC : Hid (∀ W, IsL (n + 2) W v (lst c) → _) := fun W h => Cells_list (k := 4) (v := v) (l := lst c) (by decide) (by decide) Tb.zero 0 (w := W) h (by rw [LL0.out]; exact h6) LX.out
          go_wp2_with fail
          replace hM := hid (hM.out.drew)
          replace I := hid (IsL.drew I.out )
          refine wp_region_held_drew (S := fun w' => Bo w' (n + 1) (tg 4 v Tb.zero 0)) (by kernel_rfl) (hM.out.at 0 rfl) (fun hH => ?_)
          generalize World.drew _ = W at hM hH I ⊢
          refine tkR 0 rfl hH (fun _ h => h) (rwTh 4 HVO.out _ _) ?_
          simp only [Act.put, p1, p2, p3]
          refine tkR 1 rfl hH (fun _ h => h) (rwTh 4 HVO.out _ _) ?_
          simp only [Act.put, p1, p2, p3]
          refine tk 3 rfl hH ?_
          simp only [Act.put, p1, p2, p3]
          refine rd1 2 rfl (fun K hK => ?_)
          go_simp
          refine (CC.out _ I.out).mono ?_
          rintro e W ⟨⟨bq, rfl, hq, hW⟩, hb⟩
          replace hM := hid (hM.out.laterB hb hq hW)
          replace I := hid (IsL.later I.out hb)
          clear hb
          go_wp2_with fail
          refine hK.out _ _ (hM.out.at 1 rfl) (fun hH => ?_)
          clear hK K
          try simp only [Act.put, p1, p2, p3]
          refine rd1 4 rfl (fun K hK => ?_)
          go_simp
          refine (same_wf (hM.out.at 0 rfl) (hC.out.later hM.out.below) _ HV.out).mono ?_
          rintro e W ⟨rfl, hb⟩
          replace hM := hid (hM.out.later hb)
          replace I := hid (IsL.later I.out hb)
          clear hb
          go_wp2_with fail
          refine hK.out _ _ (hM.out.at 1 rfl) (fun hH => ?_)
          clear hK K
          try simp only [Act.put, p1, p2, p3]
          refine rd1 5 rfl (fun K hK => ?_)
          refine stR rfl (hM.out.at 2 rfl) (rwN.len (rwTh 4 HVO.out _ _)) (rwTh 4 HVO.out _ _) ?_
          simp only [Act.put]
          replace hM := hid (hM.out.put 2 rfl (tg 4 v Tb.zero 0) (rwN.len (rwTh 4 HVO.out _ _)))
          replace I := hid (IsL.asideL I.out (k := n) (by omega) 0 (tg 4 v Tb.zero 0))
          refine hK.out _ _ (hM.out.at 1 rfl) (fun hH => ?_)
          clear hK K
          generalize World.setCells _ _ _ _ = W at hM I hH ⊢
          try simp only [Act.put, p1, p2, p3]
          refine tk 6 rfl hH ?_
          simp only [Act.put, p1, p2, p3]
          refine wpAnyH_done (by kernel_rfl) ?_ _
          go_wp2
          exact bodyPost_ret (res1s Tryz.results50 (hM.out.at 2 rfl) (rwTh 4 HVO.out _ _) (.bool _)) rfl ⟨v, rfl, IsL.mono I.out (by have := hM.out.size; omega), hM.out.below⟩
set_option maxHeartbeats 8000000 in
theorem ThingOf_l {bc oc kc : Nat} {c : Nat → Nat} {w : World} {b : Bool} {kind : Int} (k5 : 1 ≤ kind ∧ kind ≤ 4) (hc : Wf w bc oc c) (hm : ∀ j, j < 17 → c j ≤ 4294967295) (h6 : c 0 ≤ 6) (h4 : kind ≠ 4) (hv : b = true ↔ ∀ j, j < 17 → lw (lst c) j = c j) :
    Calls Tryz.prog 50 #[.int .i64 kind, .slice (some ⟨bc, oc, none⟩) 17 kc] w fun e w' => ∃ v, e = .returned (.tuple #[.agg (tg kind v Tb.zero 0).toArray, .bool b]) ∧ IsL w.heap.size w' v (lst c) ∧ Below w.heap.size w w' := by
  have hk : 1 ≤ kind ∧ kind ≤ 6 := by omega
  have m5 : (kind == 5) = false := by simp; omega
  have m6 : (kind == 6) = false := by simp; omega
  have HK : Hid (kind ≠ 5 ∧ kind ≠ 6) := ⟨by omega, by omega⟩
  have HM : Hid _ := hm
  have H6 : Hid _ := h6
  have hC : Hid _ := hc
  clear k5 hm h6 hc
  have m4 : (kind == 4) = false := by simp; exact h4
  clear h4
  have HV : Hid _ := hv
  clear hv
  have LT : Hid (∀ i, i < c 0 → (lst c).take i ++ [((c (i + 1) : Nat) : Int)] = (lst c).take (i + 1)) := fun i hi => lsq_take c hi
  have LL : Hid (∀ i, i ≤ c 0 → ((lst c).take i).length = i) := fun i hi => by rw [List.length_take, lst_length]; omega
  have LE : Hid ((lst c).take (c 0) = lst c) := List.take_of_length_le (by rw [lst_length]; exact Nat.le_refl _)
  have LX : Hid (∀ x ∈ lst c, 0 ≤ x ∧ x ≤ 4294967295) := lst_le (fun j hj => HM.out j hj) H6.out
  have LL0 : Hid _ := lst_length c
  have hM : Hid _ := (((Ms.nil w).bornR (tg_zero 0).symm 72 (b := w.heap.size) rfl).bornR (tg_zero 0).symm 72 (b := w.heap.size + 1) (by simp))
  go_enter Tryz.func50, Tryz.ntmps50
  go_wp2_with (first
    | (refine sR rfl (hM.out.at 0 rfl) rfl (rwN.len (rwK kind)) (rwK kind) ?_
       replace hM := hid (hM.out.put 0 rfl _ (rwN.len (rwK kind)))
       generalize World.setCells _ _ _ _ = W at hM ⊢
       rw [← tg_nil] at hM))
  generalize hsz : w.heap.size = n at hM ⊢
  clear hsz
  refine (rwithin_yes kind 1 6 _ hk.1 hk.2).mono ?_
  rintro e ux ⟨rfl, hw⟩
  rw [hw]; clear hw ux
  go_wp2_with fail
  go_loopg [19] 17 (fun gg s19 wt => wt = W ∧ ∃ i : Nat, i ≤ 17 ∧ 17 - i ≤ gg ∧ s19 = .int .i64 i ∧ Hid (∀ j, j < i → c j ≤ 4294967295))
  case atStart => exact ⟨rfl, 0, by omega, by omega, rfl, fun j hj => absurd hj (by omega)⟩
  case round =>
    obtain ⟨rfl, i, hi, hgg, rfl, U⟩ := hrel
    by_cases hlt : i < 17
    · have g0 := (hC.out.later hM.out.below).cell i hlt
      have hi1 : (i : Int) < 17 := by omega
      have hi0 : (0 : Int) ≤ (i : Int) := by omega
      by_cases hle : c i ≤ 4294967295
      · have U' : Hid (∀ j, j < i + 1 → c j ≤ 4294967295) := fun j hj => by
          by_cases e : j = i
          · subst e; exact hle
          · exact U.out j (by omega)
        have hd : ¬ 4294967295 < ((c i : Nat) : Int) := by omega
        clear U
        generalize c i = x at g0 hd hle
        clear hle
        go_wp2
        go_roundg (17 - (i + 1))
        case measure => omega
        case rel => exact ⟨rfl, i + 1, by omega, by omega, by go_num, U'⟩
      · exact absurd (HM.out i hlt) hle
    · obtain rfl : i = 17 := by omega
      clear U hlt
      have g0 : wr.cell? ⟨bc, oc, none⟩ = _ := (hC.out.later hM.out.below).cell 0 (by decide)
      have h6 := H6.out
      have ez1 : IntKind.i64.wrap ((c 0 : Nat) : Int) = (c 0 : Nat) := by rw [IntKind.wrap_i64]; omega
      have ez2 : wrap64 ((c 0 : Nat) : Int) = (c 0 : Nat) := by unfold wrap64; omega
      have hd : decide ((6 : Int) < ((c 0 : Nat) : Int)) = false := by simp; omega
      have hdn : ¬ (6 : Int) < ((c 0 : Nat) : Int) := by omega
      obtain ⟨z, hz⟩ : ∃ z, c 0 = z := ⟨_, rfl⟩
      rw [hz] at g0 ez1 ez2 hd hdn LT LL LE LL0 h6
      clear hz
      obtain ⟨wq, rfl⟩ : ∃ wq, wq = wr := ⟨_, rfl⟩
      go_wp2_with fail
      clear g0 hd hdn
      have hnw : n + 2 ≤ wq.heap.size := by have := hM.out.len 0 rfl; omega
      go_loopg [37] z (fun gg s37 wt => ∃ i : Nat, i ≤ z ∧ z - i ≤ gg ∧ s37 = .int .i64 i ∧ n + 2 ≤ wt.heap.size ∧ ∃ v, Hid (Own (n + 2) wt v ((lst c).take i)) ∧ Hid (Ms n w wt [(n + 1, tg kind v Tb.zero 0), (n, tg 0 (.slice none 0 0) Tb.zero 0)] []))
      case atStart => exact ⟨0, by omega, by omega, rfl, hnw, (.slice none 0 0), ⟨rfl, Or.inl ⟨rfl, rfl⟩⟩, hM⟩
      case round =>
        clear hM hnw
        obtain ⟨i, hi, hgg, rfl, hnw, v, O, hM⟩ := hrel
        by_cases hlt : i < z
        · have N1 : Hid _ := LT.out i hlt
          have L1 : Hid (((lst c).take i).length + 1 ≤ 1000000) := by have := LL.out i (by omega); show _ + 1 ≤ 1000000; omega
          have x1 := HM.out (i + 1) (by omega)
          have ex1 : IntKind.i64.wrap ((c (i + 1) : Nat) : Int) = (c (i + 1) : Nat) := by rw [IntKind.wrap_i64]; omega
          have ex2 : wrap64 ((c (i + 1) : Nat) : Int) = (c (i + 1) : Nat) := by unfold wrap64; omega
          have i1 : (i : Int) < (z : Int) := by omega
          have j1 : (i : Int) + 1 < 17 := by omega
          have j0 : (0 : Int) ≤ (i : Int) + 1 := by omega
          have j2 : IntKind.i64.wrap ((i : Int) + 1) = (i : Int) + 1 := by rw [IntKind.wrap_i64]; omega
          have j3 : ((i : Int) + 1).toNat = i + 1 := by omega
          generalize (lst c).take i = ys at O N1 L1
          go_wp2_with fail
          generalize wr = W at hM O hnw ⊢
          replace hM := hid (hM.out.drew)
          replace O := hid (Own.drew O.out)
          replace hnw : n + 2 ≤ W.drew.heap.size := hnw
          refine wp_region_held_drew (S := fun w' => Wf w' bc oc c) (by kernel_rfl) (hC.out.later hM.out.below) (fun hH => ?_)
          generalize World.drew _ = W at hM O hnw hH ⊢
          refine tk 0 rfl hH ?_
          simp only [Act.put, p1, p2, p3]
          refine tk 2 rfl hH ?_
          simp only [Act.put, p1, p2, p3]
          refine tk 3 rfl hH ?_
          simp only [Act.put, p1, p2, p3]
          refine tk 4 rfl hH ?_
          simp only [Act.put, p1, p2, p3]
          refine tk 5 rfl hH ?_
          simp only [Act.put, p1, p2, p3]
          refine tk 6 rfl hH ?_ (by intro w h; have c0 := h.cell (i + 1) (by omega); clear h; go_simp; try with_reducible rfl)
          simp only [Act.put, p1, p2, p3]
          refine tk 7 rfl hH ?_
          simp only [Act.put, p1, p2, p3]
          refine rdn [1, 8] ?_
          refine rdc rfl (fun K hK => ?_) ?_
          · have c0 := hM.out.cell 0 1 rfl (tg_1 _ _ _ _)
            go_simp
            clear c0
            refine hK.out _ _ (hC.out.later hM.out.below) (fun hH => ?_)
            clear hK K
            try simp only [Act.put, p1, p2, p3]
            refine rd1 8 rfl (fun K hK => ?_)
            go_simp
            have hI : Hid (IsL 0 (W.alloc (.cells #[.int .i64 (c (i + 1) : Nat)] 3)) (.slice (some ⟨W.heap.size, 0, none⟩) 1 1) [((c (i + 1) : Nat) : Int)]) := IsL.lit W [((c (i + 1) : Nat) : Int)] Nat.zero_lt_one
            replace O := hid (Own.new O.out (.cells #[.int .i64 (c (i + 1) : Nat)] 3))
            replace hM := hid (hM.out.new (.cells #[.int .i64 (c (i + 1) : Nat)] 3))
            replace hnw : n + 2 ≤ (W.alloc (.cells #[.int .i64 (c (i + 1) : Nat)] 3)).heap.size := by simp; omega
            refine hK.out _ _ (hC.out.later hM.out.below) (fun hH => ?_)
            clear hK K
            generalize World.alloc _ _ = W1 at hM hI O hnw hH ⊢
            try simp only [Act.put, p1, p2, p3]
            refine rd1 9 rfl (fun K hK => ?_)
            refine apO (.tmp 41) (.tmp 48) rfl hnw O.out hI.out rfl rfl L1.out ?_
            intro W3 w3 hO3 hb3
            obtain ⟨a3, k3, rfl⟩ := hO3.form
            generalize hl3 : (ys ++ [((c (i + 1) : Nat) : Int)]).length = l3
            rw [hl3] at hO3; clear hl3
            replace hM := hid (hM.out.laterA hb3 (by simp))
            replace hnw : n + 2 ≤ w3.heap.size := Nat.le_trans hnw hb3.size
            clear O hI
            have O : Hid _ := hO3
            clear hO3 hb3
            refine hK.out _ _ (hC.out.later hM.out.below) (fun hH => ?_)
            clear hK K
            try simp only [Act.put, p1, p2, p3]
            refine tk 10 rfl hH ?_
            simp only [Act.put, p1, p2, p3]
            refine rd1 11 rfl (fun K hK => ?_)
            have c0 := hM.out.cell 0 1 rfl (tg_1 _ _ _ _)
            have c1 := hM.out.froz 0 1 rfl
            go_simp
            clear c0 c1
            replace hM := hid (hM.out.put1 0 1 rfl (.slice a3 l3 k3) (tg kind (.slice a3 l3 k3) Tb.zero 0) (by rw [tg_length]; decide) (tg_list _ _ (.slice a3 l3 k3) _ _))
            replace O := hid (Own.aside O.out (p := ⟨n + 1, 1, none⟩) (by simp) (.slice a3 l3 k3))
            refine hK.out _ _ (hC.out.later hM.out.below) (fun hH => ?_)
            clear hK K
            try simp only [p1, p2, p3]
            refine wpAnyH_done (by kernel_rfl) ?_ _
            go_wp2
            go_roundg (z - (i + 1))
            case measure => omega
            case rel => exact ⟨i + 1, by omega, by omega, by go_num, by simpa [World.setCell] using hnw, (.slice a3 l3 k3), by rw [← N1.out]; exact O.out, hM⟩
          refine rdc rfl (fun K hK => ?_) AllReadyH.nil
          go_simp
          have hI : Hid (IsL 0 (W.alloc (.cells #[.int .i64 (c (i + 1) : Nat)] 3)) (.slice (some ⟨W.heap.size, 0, none⟩) 1 1) [((c (i + 1) : Nat) : Int)]) := IsL.lit W [((c (i + 1) : Nat) : Int)] Nat.zero_lt_one
          replace O := hid (Own.new O.out (.cells #[.int .i64 (c (i + 1) : Nat)] 3))
          replace hM := hid (hM.out.new (.cells #[.int .i64 (c (i + 1) : Nat)] 3))
          replace hnw : n + 2 ≤ (W.alloc (.cells #[.int .i64 (c (i + 1) : Nat)] 3)).heap.size := by simp; omega
          refine hK.out _ _ (hC.out.later hM.out.below) (fun hH => ?_)
          clear hK K
          generalize World.alloc _ _ = W1 at hM hI O hnw hH ⊢
          try simp only [Act.put, p1, p2, p3]
          refine rd1 1 rfl (fun K hK => ?_)
          have c0 := hM.out.cell 0 1 rfl (tg_1 _ _ _ _)
          go_simp
          clear c0
          refine hK.out _ _ (hC.out.later hM.out.below) (fun hH => ?_)
          clear hK K
          try simp only [Act.put, p1, p2, p3]
          refine rd1 9 rfl (fun K hK => ?_)
          refine apO (.tmp 41) (.tmp 48) rfl hnw O.out hI.out rfl rfl L1.out ?_
          intro W3 w3 hO3 hb3
          obtain ⟨a3, k3, rfl⟩ := hO3.form
          generalize hl3 : (ys ++ [((c (i + 1) : Nat) : Int)]).length = l3
          rw [hl3] at hO3; clear hl3
          replace hM := hid (hM.out.laterA hb3 (by simp))
          replace hnw : n + 2 ≤ w3.heap.size := Nat.le_trans hnw hb3.size
          clear O hI
          have O : Hid _ := hO3
          clear hO3 hb3
          refine hK.out _ _ (hC.out.later hM.out.below) (fun hH => ?_)
          clear hK K
          try simp only [Act.put, p1, p2, p3]
          refine tk 10 rfl hH ?_
          simp only [Act.put, p1, p2, p3]
          refine rd1 11 rfl (fun K hK => ?_)
          have c0 := hM.out.cell 0 1 rfl (tg_1 _ _ _ _)
          have c1 := hM.out.froz 0 1 rfl
          go_simp
          clear c0 c1
          replace hM := hid (hM.out.put1 0 1 rfl (.slice a3 l3 k3) (tg kind (.slice a3 l3 k3) Tb.zero 0) (by rw [tg_length]; decide) (tg_list _ _ (.slice a3 l3 k3) _ _))
          replace O := hid (Own.aside O.out (p := ⟨n + 1, 1, none⟩) (by simp) (.slice a3 l3 k3))
          refine hK.out _ _ (hC.out.later hM.out.below) (fun hH => ?_)
          clear hK K
          try simp only [p1, p2, p3]
          refine wpAnyH_done (by kernel_rfl) ?_ _
          go_wp2
          go_roundg (z - (i + 1))
          case measure => omega
          case rel => exact ⟨i + 1, by omega, by omega, by go_num, by simpa [World.setCell] using hnw, (.slice a3 l3 k3), by rw [← N1.out]; exact O.out, hM⟩
        · have ei : i = z := by omega
          rw [ei, LE.out] at O
          clear hlt
          have I : Hid (IsL (n + 2) wr v (lst c)) := O.out.isL
          clear O
          have HVO : Hid (v.oneCell' = true) := by obtain ⟨a, k, hv⟩ := I.out.form; rw [hv]; rfl
          have t1 := hM.out.cell 0 1 rfl (tg_1 _ _ _ _)
          have CC : Hid (∀ W, IsL (n + 2) W v (lst c) → _) := fun W h => Cells_list (k := kind) (v := v) (l := lst c) HK.out.1 HK.out.2 Tb.zero 0 (w := W) h (by rw [LL0.out]; exact h6) LX.out
          go_wp2_with fail
          replace hM := hid (hM.out.drew)
          replace I := hid (IsL.drew I.out )
          refine wp_region_held_drew (S := fun w' => Bo w' (n + 1) (tg kind v Tb.zero 0)) (by kernel_rfl) (hM.out.at 0 rfl) (fun hH => ?_)
          generalize World.drew _ = W at hM hH I ⊢
          refine tkR 0 rfl hH (fun _ h => h) (rwTh kind HVO.out _ _) ?_
          simp only [Act.put, p1, p2, p3]
          refine tkR 1 rfl hH (fun _ h => h) (rwTh kind HVO.out _ _) ?_
          simp only [Act.put, p1, p2, p3]
          refine tk 3 rfl hH ?_
          simp only [Act.put, p1, p2, p3]
          refine rd1 2 rfl (fun K hK => ?_)
          go_simp
          refine (CC.out _ I.out).mono ?_
          rintro e W ⟨⟨bq, rfl, hq, hW⟩, hb⟩
          replace hM := hid (hM.out.laterB hb hq hW)
          replace I := hid (IsL.later I.out hb)
          clear hb
          go_wp2_with fail
          refine hK.out _ _ (hM.out.at 1 rfl) (fun hH => ?_)
          clear hK K
          try simp only [Act.put, p1, p2, p3]
          refine rd1 4 rfl (fun K hK => ?_)
          go_simp
          refine (same_wf (hM.out.at 0 rfl) (hC.out.later hM.out.below) _ HV.out).mono ?_
          rintro e W ⟨rfl, hb⟩
          replace hM := hid (hM.out.later hb)
          replace I := hid (IsL.later I.out hb)
          clear hb
          go_wp2_with fail
          refine hK.out _ _ (hM.out.at 1 rfl) (fun hH => ?_)
          clear hK K
          try simp only [Act.put, p1, p2, p3]
          refine rd1 5 rfl (fun K hK => ?_)
          refine stR rfl (hM.out.at 2 rfl) (rwN.len (rwTh kind HVO.out _ _)) (rwTh kind HVO.out _ _) ?_
          simp only [Act.put]
          replace hM := hid (hM.out.put 2 rfl (tg kind v Tb.zero 0) (rwN.len (rwTh kind HVO.out _ _)))
          replace I := hid (IsL.asideL I.out (k := n) (by omega) 0 (tg kind v Tb.zero 0))
          refine hK.out _ _ (hM.out.at 1 rfl) (fun hH => ?_)
          clear hK K
          generalize World.setCells _ _ _ _ = W at hM I hH ⊢
          try simp only [Act.put, p1, p2, p3]
          refine tk 6 rfl hH ?_
          simp only [Act.put, p1, p2, p3]
          refine wpAnyH_done (by kernel_rfl) ?_ _
          go_wp2
          exact bodyPost_ret (res1s Tryz.results50 (hM.out.at 2 rfl) (rwTh kind HVO.out _ _) (.bool _)) rfl ⟨v, rfl, IsL.mono I.out (by have := hM.out.size; omega), hM.out.below⟩
end Go.Proofs.YteogbpaaacmllaaGreatDoor.Tab
namespace Go.Proofs.YteogbpaaacmllaaGreatDoor.Tab
set_option maxRecDepth 20000
open Go.RowKit
set_option linter.unusedVariables false

/-- What a thing that words are is, as it lies. -/
structure Th (B : Nat) (w : World) (kind : Int) (c : Nat → Nat) (v : Value) (t : Tb) (x : Int) : Prop where
  list : kind ≤ 4 → IsL B w v (lst c) ∧ t = Tb.zero ∧ x = 0
  table : kind = 5 → v = .slice none 0 0 ∧ t.all = (tbl c).all ∧ x = 0
  tally : kind = 6 → v = .slice none 0 0 ∧ t = Tb.zero ∧ x = (c 0 : Nat)

theorem lw_iff {c : Nat → Nat} (h6 : c 0 ≤ 6) (hm : ∀ j, j < 17 → c j ≤ 4294967295) : (∀ j, j < 17 → lw (lst c) j = c j) ↔ WList c := by
  constructor
  · intro h
    refine ⟨h6, fun i _ hi => hm i (by omega), fun i h1 h2 => ?_⟩
    rw [← h i h2]
    unfold lw
    rw [if_neg (by omega), List.getD_eq_getElem?_getD, List.getElem?_eq_none (by rw [lst_length]; omega)]; rfl
  · exact lw_lst
theorem tw_iff {c : Nat → Nat} : (∀ j, j < 17 → tw (tbl c) j = c j) ↔ c 16 = 0 := by
  constructor
  · intro h
    rw [← h 16 (by decide)]; rfl
  · intro h j hj
    unfold tw tbl
    by_cases e : j < 16
    · rw [if_pos e]
      by_cases e2 : j % 2 = 0
      · rw [if_pos e2]; simp only [Int.toNat_natCast]; congr 1; omega
      · rw [if_neg e2]; simp only [Int.toNat_natCast]; congr 1; omega
    · rw [if_neg e, show j = 16 by omega, h]
theorem tyw_iff {c : Nat → Nat} : (∀ j, j < 17 → tyw (c 0 : Nat) j = c j) ↔ ∀ j, 1 ≤ j → j < 17 → c j = 0 := by
  constructor
  · intro h j h1 h2
    rw [← h j h2]; unfold tyw; rw [if_neg (by omega)]
  · intro h j hj
    unfold tyw
    by_cases e : j = 0
    · subst e; rw [if_pos rfl]; exact Int.toNat_natCast _
    · rw [if_neg e, h j (by omega) hj]

theorem ThingOf_is {kind : Int} {bc oc kc : Nat} {c : Nat → Nat} {b : Bool} (hb : b = true ↔ isTh kind c) {w : World} (hc : Wf w bc oc c) :
    Calls Tryz.prog 50 #[.int .i64 kind, .slice (some ⟨bc, oc, none⟩) 17 kc] w fun e w' => ∃ v t x, v.oneCell' = true ∧ e = .returned (.tuple #[.agg (tg kind v t x).toArray, .bool b]) ∧ (b = true → Th w.heap.size w' kind c v t x) ∧ Below w.heap.size w w' := by
  have no : ¬ isTh kind c → (Calls Tryz.prog 50 #[.int .i64 kind, .slice (some ⟨bc, oc, none⟩) 17 kc] w fun e w' => ∃ v t x, v.oneCell' = true ∧ e = .returned (.tuple #[.agg (tg kind v t x).toArray, .bool false]) ∧ Below w.heap.size w w') →
      Calls Tryz.prog 50 #[.int .i64 kind, .slice (some ⟨bc, oc, none⟩) 17 kc] w fun e w' => ∃ v t x, v.oneCell' = true ∧ e = .returned (.tuple #[.agg (tg kind v t x).toArray, .bool b]) ∧ (b = true → Th w.heap.size w' kind c v t x) ∧ Below w.heap.size w w' := by
    intro hn h
    have e : b = false := by cases b with
      | false => rfl
      | true => exact absurd (hb.1 rfl) hn
    subst e
    exact h.mono fun _ _ ⟨v, t, x, h1, h2, h3⟩ => ⟨v, t, x, h1, h2, (fun h => absurd h (by decide)), h3⟩
  by_cases hk : 1 ≤ kind ∧ kind ≤ 6
  · by_cases hm : ∀ j, j < 17 → c j ≤ 4294967295
    · have hkk : kind ≤ 4 ∨ kind = 5 ∨ kind = 6 := by omega
      rcases hkk with hk4 | hk5 | hk6
      · by_cases h6 : c 0 ≤ 6
        · have hl := lw_iff h6 hm
          by_cases h4 : kind = 4
          · by_cases hp : Hp (lst c)
            · refine (ThingOf_4 (b := b) ⟨hk.1, hk4⟩ hc hm h6 h4 hp ?_).mono fun e w' ⟨v, h1, h2, h3⟩ => ⟨v, Tb.zero, 0, ?_, h1, fun _ => ⟨fun _ => ⟨h2, rfl, rfl⟩, fun h => by omega, fun h => by omega⟩, h3⟩
              · rw [hb, hl]; unfold isTh; subst h4; simp [hp]
              · obtain ⟨a, k, rfl⟩ := h2.form; rfl
            · exact no (by unfold isTh; subst h4; simp [hp]) (ThingOf_4n (b := b) ⟨hk.1, hk4⟩ hc hm h6 h4 hp)
          · refine (ThingOf_l (b := b) ⟨hk.1, hk4⟩ hc hm h6 h4 ?_).mono fun e w' ⟨v, h1, h2, h3⟩ => ⟨v, Tb.zero, 0, ?_, h1, fun _ => ⟨fun _ => ⟨h2, rfl, rfl⟩, fun h => by omega, fun h => by omega⟩, h3⟩
            · rw [hb, hl]; unfold isTh
              constructor
              · rintro (⟨_, h⟩ | ⟨h, _⟩ | ⟨h, _⟩ | ⟨h, _⟩)
                · exact h
                · omega
                · omega
                · omega
              · intro h; exact Or.inl ⟨by omega, h⟩
            · obtain ⟨a, k, rfl⟩ := h2.form; rfl
        · refine no ?_ (ThingOf_long (b := b) ⟨hk.1, hk4⟩ hc hm (by omega))
          rintro (⟨_, h⟩ | ⟨_, h, _⟩ | ⟨h, _⟩ | ⟨h, _⟩)
          · exact h6 h.len
          · exact h6 h.len
          · omega
          · omega
      · by_cases hr : RT (tbl c)
        · refine (ThingOf_5 (b := b) hc hm hr ?_ hk5).mono fun e w' ⟨h1, h3⟩ => ⟨.slice none 0 0, tbl c, 0, rfl, by rw [h1, hk5], fun _ => ⟨fun h => by omega, fun _ => ⟨rfl, rfl, rfl⟩, fun h => by omega⟩, h3⟩
          rw [hb, tw_iff]; unfold isTh WT; subst hk5; simp [hr]; intro h j hj; exact hm j (by omega)
        · exact no (by unfold isTh WT; subst hk5; simp [hr]) ((ThingOf_5n (b := b) hc hm hr hk5).mono fun e w' ⟨h1, h3⟩ => ⟨.slice none 0 0, tbl c, 0, rfl, by rw [h1, hk5], h3⟩)
      · refine (ThingOf_6 (b := b) hc hm ?_ hk6).mono fun e w' ⟨h1, h3⟩ => ⟨.slice none 0 0, Tb.zero, (c 0 : Nat), rfl, by rw [h1, hk6], fun _ => ⟨fun h => by omega, fun h => by omega, fun _ => ⟨rfl, rfl, rfl⟩⟩, h3⟩
        rw [hb, tyw_iff]; unfold isTh WN; subst hk6; simp; intro h; exact hm 0 (by decide)
    · refine no (fun h => hm h.le) (ThingOf_big hk hc ?_)
      exact Classical.byContradiction fun h => hm fun j hj => by
        by_cases e : c j ≤ 4294967295
        · exact e
        · exact absurd ⟨j, hj, by omega⟩ h
  · exact no (fun h => hk h.kind) (ThingOf_bad (by omega) w)
end Go.Proofs.YteogbpaaacmllaaGreatDoor.Tab
namespace Go.Proofs.YteogbpaaacmllaaGreatDoor
set_option maxRecDepth 20000
open Go.RowKit

/-- What the reference has made: the slice (what came in, or a new one) and the answer. -/
def MadeR (w : World) (v : Value) (xs ys : List Int) (c y : Int) (e : Ending) (w' : World) : Prop :=
  ∃ v', e = .returned (.tuple #[v', .agg #[.int .i64 c, .int .i64 y]]) ∧ ((v' = v ∧ ys = xs) ∨ IsL w.heap.size w' v' ys) ∧ Below w.heap.size w w'
/-- The same, the slice a new one. -/
def MadeN (w : World) (ys : List Int) (c y : Int) (e : Ending) (w' : World) : Prop :=
  ∃ v', e = .returned (.tuple #[v', .agg #[.int .i64 c, .int .i64 y]]) ∧ IsL w.heap.size w' v' ys ∧ Below w.heap.size w w'
end Go.Proofs.YteogbpaaacmllaaGreatDoor
namespace Go.Proofs.YteogbpaaacmllaaGreatDoor.Tab
set_option maxRecDepth 20000
open Go.RowKit
set_option linter.unusedVariables false

def Lf (n m : Nat) (w : World) (v : Value) (xs : List Int) : Prop :=
  (xs = [] ∧ ∃ (a : Option Addr) (c : Nat), v = .slice a 0 c) ∨
  ∃ (b off c : Nat), v = .slice (some ⟨b, off, none⟩) xs.length c ∧ (b < n ∨ m ≤ b) ∧ b < w.heap.size ∧ 0 < xs.length ∧ xs.length ≤ c ∧ (∀ j, j < xs.length → w.cell? ⟨b, off + j, none⟩ = some (.int .i64 (xs.getD j 0)))
theorem Lf.old {B m : Nat} {w : World} {v : Value} {xs : List Int} (h : IsL B w v xs) : Lf w.heap.size m w v xs := by
  rcases h with h | ⟨b, off, c, h1, h2, h4, h5, h6, h7⟩
  · exact Or.inl h
  · have := World.block_lt_of_cell? _ _ (h6 0 h4)
    exact Or.inr ⟨b, off, c, h1, Or.inl this, this, h4, h5, h6⟩
theorem Lf.made {n m k : Nat} {w : World} {v : Value} {xs : List Int} (h : IsL k w v xs) (hk : m ≤ k) : Lf n m w v xs := by
  rcases h with h | ⟨b, off, c, h1, h2, h4, h5, h6, h7⟩
  · exact Or.inl h
  · exact Or.inr ⟨b, off, c, h1, Or.inr (by omega), World.block_lt_of_cell? _ _ (h6 0 h4), h4, h5, h6⟩
theorem Lf.isL {n m : Nat} {w : World} {v : Value} {xs : List Int} (h : Lf n m w v xs) : IsL 0 w v xs := by
  rcases h with h | ⟨b, off, c, h1, h2, h3, h4, h5, h6⟩
  · exact Or.inl h
  · exact Or.inr ⟨b, off, c, h1, Nat.zero_le _, h4, h5, h6, fun h => absurd h (by decide)⟩
theorem Lf.form {n m : Nat} {w : World} {v : Value} {xs : List Int} (h : Lf n m w v xs) : ∃ a c, v = .slice a xs.length c := h.isL.form
theorem Lf.keep {n m : Nat} {w w' : World} {v : Value} {xs : List Int} (h : Lf n m w v xs) (hs : w.heap.size ≤ w'.heap.size) (hb : ∀ b, (b < n ∨ m ≤ b) → b < w.heap.size → w'.heap[b]? = w.heap[b]?) : Lf n m w' v xs := by
  rcases h with h | ⟨b, off, c, h1, h2, h3, h4, h5, h6⟩
  · exact Or.inl h
  · exact Or.inr ⟨b, off, c, h1, h2, Nat.lt_of_lt_of_le h3 hs, h4, h5, fun j hj => by rw [World.cell?_of_block (w := w) (hb b h2 h3)]; exact h6 j hj⟩
theorem Lf.later {n m : Nat} {w w' : World} {v : Value} {xs : List Int} (h : Lf n m w v xs) (hb : Below w.heap.size w w') : Lf n m w' v xs := h.keep hb.size fun b _ hl => hb.block b hl
theorem Lf.new {n m : Nat} {w : World} {v : Value} {xs : List Int} (h : Lf n m w v xs) (o : Obj) : Lf n m (w.alloc o) v xs := h.later (new_below w o)
theorem Lf.drew {n m : Nat} {w : World} {v : Value} {xs : List Int} (h : Lf n m w v xs) : Lf n m w.drew v xs := h.keep (Nat.le_refl _) fun _ _ _ => rfl
theorem Lf.asideL {n m k : Nat} {w : World} {v : Value} {xs : List Int} (h : Lf n m w v xs) (hk : n ≤ k ∧ k < m) (p : Nat) (vs : List Value) : Lf n m (w.setCells k p vs) v xs :=
  h.keep (by rw [size_setCells]; exact Nat.le_refl _) fun b h1 _ => heap_setCells (by omega) _ _ _
theorem Lf.aside {n m : Nat} {w : World} {v : Value} {xs : List Int} (h : Lf n m w v xs) {p : Addr} (hp : n ≤ p.block ∧ p.block < m) (u : Value) : Lf n m (w.setCell p u) v xs :=
  h.keep (by simp [World.setCell]) fun b h1 _ => Below.heap_setCell _ _ _ _ (by omega)
theorem Lf.of_made {n m : Nat} {w w' : World} {v v' : Value} {xs ys : List Int} (h : Lf n m w' v xs) (hm : m ≤ w.heap.size) (hv : (v' = v ∧ ys = xs) ∨ IsL w.heap.size w' v' ys) : Lf n m w' v' ys := by
  rcases hv with ⟨rfl, rfl⟩ | hv
  · exact h
  · exact Lf.made hv hm
theorem tw_all {u : Tb} (hk : ∀ i, i < 8 → 0 ≤ u.k i) (hv : ∀ i, i < 8 → 0 ≤ u.v i) : u.all = (tbl (tw u)).all := by
  unfold Tb.all
  refine List.map_congr_left fun j hj => ?_
  have hj : j < 16 := by simpa using hj
  have h1 := hk (j / 2) (by omega)
  have h2 := hv (j / 2) (by omega)
  unfold Tb.at tbl tw
  by_cases e : j % 2 = 0
  · simp only [e, if_true]
    rw [if_pos (by omega), if_pos (by omega), show 2 * (j / 2) / 2 = j / 2 by omega]
    congr 1; omega
  · simp only [e, if_false]
    rw [if_pos (by omega), if_neg (by omega), show (2 * (j / 2) + 1) / 2 = j / 2 by omega]
    congr 1; omega
theorem tg_same {k : Int} {v : Value} {t u : Tb} {n : Int} (h : t.all = u.all) : tg k v t n = tg k v u n := by unfold tg; rw [h]
/-- The slots of a thing, written. -/
theorem tg_tab (k : Int) (v : Value) (t u : Tb) (n : Int) {j : Nat} : (tg k v u n)[j]? = if 2 ≤ j ∧ j < 18 then u.all[j - 2]? else (tg k v t n)[j]? := by
  rcases j with _ | _ | j
  · rfl
  · rfl
  · simp only [tg, List.getElem?_cons_succ]
    by_cases h : j < 16
    · rw [if_pos (by omega), List.getElem?_append, if_pos (by rw [Tb.all_length]; exact h)]; rfl
    · rw [if_neg (by omega), List.getElem?_append, List.getElem?_append, if_neg (by rw [Tb.all_length]; exact h), if_neg (by rw [Tb.all_length]; exact h), Tb.all_length, Tb.all_length]
theorem Bo.setTab {w : World} {b : Nat} {k : Int} {v : Value} {t : Tb} {n : Int} (h : Bo w b (tg k v t n)) (u : Tb) : Bo (w.setCells b 2 u.all) b (tg k v u n) where
  cell j y hy := by
    rw [tg_tab k v t u n] at hy
    by_cases hj : 2 ≤ j ∧ j < 18
    · rw [if_pos hj] at hy
      have hl : j - 2 < u.all.length := by rw [Tb.all_length]; omega
      have := World.cell?_setCells_in b u.all 2 w (fun m hm => by
        rw [Tb.all_length] at hm
        rw [h.cell (2 + m) _ (tg_at k v t n hm)]; rfl) (j - 2) hl
      rw [show 2 + (j - 2) = j by omega] at this
      rw [this]
      rw [List.getElem?_eq_getElem hl] at hy
      exact hy
    · rw [if_neg hj] at hy
      rw [World.cell?_setCells_out]
      · exact h.cell j y hy
      · intro _ _
        show j < 2 ∨ 2 + u.all.length ≤ j
        rw [Tb.all_length]
        omega
  froz j := by rw [World.frozen?_setCells]; exact h.froz j
  lt := by rw [size_setCells]; exact h.lt
theorem Bo.thereTb {w : World} {b : Nat} {k : Int} {v : Value} {t : Tb} {n : Int} (h : Bo w b (tg k v t n)) (u : Tb) : w.there b 2 u.all.length := fun j hj => by
  rw [Tb.all_length] at hj
  exact ⟨by rw [h.cell (2 + j) _ (tg_at k v t n hj)]; rfl, h.froz _⟩
theorem Bo.thereTab {w : World} {b : Nat} {k : Int} {v : Value} {t : Tb} {n : Int} (h : Bo w b (tg k v t n)) (u : Tb) : w.there b 2 u.all.toArray.size := fun j hj => by
  rw [List.size_toArray, Tb.all_length] at hj
  exact ⟨by rw [h.cell (2 + j) _ (tg_at k v t n hj)]; rfl, h.froz _⟩
end Go.Proofs.YteogbpaaacmllaaGreatDoor.Tab
