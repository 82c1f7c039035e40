/- The reference's TableRight, by its contract. -/
import Derived.Test.YtbmgjpdfmgcigabDoorX2
import Derived.Test.YtbmgjpdfmgcigabDoorOw
namespace Go.Proofs.YtbmgjpdfmgcigabDoor.Tab
set_option maxRecDepth 20000
open Go.RowKit

theorem Gd.drewN {n : Nat} {w a : World} (h : Gd n w a) (q : Nat) : Gd n w (a.drewN q) := ⟨h.1, ⟨h.2.os, h.2.tape, h.2.output, h.2.size, h.2.block⟩⟩
theorem Bo.drewN_ {w : World} {b : Nat} {cs : List Value} (h : Bo w b cs) (q : Nat) : Bo (w.drewN q) b cs := ⟨h.cell, h.froz, h.lt⟩

/-- A slot as the document has it. -/
structure Ok (t : Tb) (i : Nat) : Prop where
  key : 0 ≤ t.k i ∧ t.k i ≤ 1000
  val : 0 ≤ t.v i ∧ t.v i ≤ 4294967295
  none : t.k i = 0 → t.v i = 0
  row : t.k i ≠ 0 → ∀ j, j < ds (home (t.k i)) i → ¬ Hit t (t.k i) (rowAt (t.k i) j)
theorem RT.ok {t : Tb} (h : RT t) {i : Nat} (hi : i < 8) : Ok t i where
  key := h.keys i hi
  val := h.vals i hi
  none := h.none i hi
  row hk j hj := h.row i hi hk _ (rowAt_lt _ _) (by rw [ds_row _ _ (by have := ds_lt (home (t.k i)) i; omega)]; exact hj)
theorem RT.of_ok {t : Tb} (hl : len t ≤ 6) (h : ∀ i, i < 8 → Ok t i) : RT t where
  keys p hp := (h p hp).key
  vals p hp := (h p hp).val
  none p hp := (h p hp).none
  row p hp hk q hq hd := by
    have := (h p hp).row hk (ds (home (t.k p)) q) hd
    rwa [row_ds _ _ hq] at this
  room := hl

set_option maxHeartbeats 4000000 in
set_option maxRecDepth 20000 in
theorem RTRight_is (t : Tb) (b : Bool) (hb : b = true ↔ RT t) (w : World) :
    Calls Tryd.prog 14 #[.agg t.all.toArray] w fun e w' => e = .returned (.bool b) ∧ Below w.heap.size w w' := by
  obtain ⟨na, ea, hd⟩ := rslots_array
  have HD : Hid _ := hd
  clear hd
  have HS : Hid (∀ t : Tb, (Tryd.prog.info? 31).map (·.size) = some t.all.length) := rslots_size
  have HZ : Hid (∀ t : Tb, (Tryd.prog.info? 31).map (·.size) = some t.all.toArray.size) := rslots_size2
  have HT : Hid ((Tryd.prog.info? 29).map (·.size) = some 2) := rslot_size
  have HA : Hid ((Tryd.prog.info? 38).map (·.size) = some 2) := answer_size
  obtain ⟨fs, ha⟩ := answer_struct
  have HDA : Hid _ := ha
  clear ha
  have HB : Hid (b = true ↔ RT t) := hb
  have HX : Hid _ := rslot_at t
  clear hb
  have G0 : Hid (Gd w.heap.size w (w.alloc (.cells t.all.toArray 31))) := (Gd.refl w).new _
  have T0 : Hid (TAt (w.alloc (.cells t.all.toArray 31)) w.heap.size t) := TAt.born w t _
  go_enter Tryd.func14, Tryd.ntmps14
  go_wp2_with (refine wpList_load_mid rfl 31 _ rfl _ _ rfl t.all _ T0.out.range HD.out rfl (HS.out t) ?_)
  generalize w.alloc (.cells t.all.toArray 31) = W at G0 T0 ⊢
  generalize w.heap.size = n at G0 T0 ⊢
  go_loopg [8] 8 (fun gg s8 wt => ∃ i : Nat, i ≤ 8 ∧ 8 - i ≤ gg ∧ s8 = .int .i64 i ∧ Hid (TAt wt n t) ∧ Hid (Gd n w wt) ∧ Hid (∀ j, j < i → Ok t j))
  case atStart => exact ⟨0, by omega, by omega, rfl, T0, G0, fun j hj => absurd hj (Nat.not_lt_zero _)⟩
  case round =>
    obtain ⟨i, hi, hgg, rfl, T, G, D⟩ := hrel
    obtain ⟨wq, rfl⟩ : ∃ wq, wq = wr := ⟨_, rfl⟩
    obtain ⟨gk0, rfl⟩ : ∃ gk0, gk0 = gk := ⟨_, rfl⟩
    clear T0 G0
    by_cases hlt : i < 8
    · have hx := HX.out i hlt
      obtain ⟨x, ex⟩ : ∃ x, t.k i = x := ⟨_, rfl⟩
      obtain ⟨y, ey⟩ : ∃ y, t.v i = y := ⟨_, rfl⟩
      have X : Hid (t.k i = x) := ex
      have Y : Hid (t.v i = y) := ey
      rw [ex, ey] at hx
      clear ex ey
      have G2 : Hid (Gd n w (wq.alloc (.cells #[.int .i64 x, .int .i64 y] 29))) := G.out.new _
      have T2 : Hid (TAt (wq.alloc (.cells #[.int .i64 x, .int .i64 y] 29)) n t) := T.out.new _
      have S2 : Hid (Bo (wq.alloc (.cells #[.int .i64 x, .int .i64 y] 29)) wq.heap.size [.int .i64 x, .int .i64 y]) := Bo.born wq [.int .i64 x, .int .i64 y] _ rfl
      have hmn : n < wq.heap.size := T.out.lt
      have c0 := S2.out.at 0 rfl
      have c1 := S2.out.at 1 rfl
      have D' : Hid (Ok t i → ∀ j, j < i + 1 → Ok t j) := fun ho j hj => by
        by_cases e : j = i
        · subst e; exact ho
        · exact D.out j (by omega)
      clear D T G
      by_cases hk : 0 ≤ x ∧ x ≤ 1000
      · have WY := rwithin_yes x 0 1000
        by_cases hv : 0 ≤ y ∧ y ≤ 4294967295
        · have WV := rwithin_yes y 0 4294967295
          by_cases h0 : x = 0
          · by_cases hy0 : y = 0
            · have OK : Hid (Ok t i) := ⟨by rw [X.out]; exact hk, by rw [Y.out]; exact hv, fun _ => by rw [Y.out, hy0], fun hn => absurd (X.out.trans h0) hn⟩
              subst h0 hy0
              go_wp2_with fail
              refine (WY _ hk.1 hk.2).mono ?_
              rintro e ux ⟨rfl, hw⟩
              rw [hw]; clear hw ux
              go_wp2_with fail
              refine (WV _ hv.1 hv.2).mono ?_
              rintro e ux ⟨rfl, hw⟩
              rw [hw]; clear hw ux
              go_wp2
              go_roundg (8 - (i + 1))
              case measure => omega
              case rel => exact ⟨i + 1, by omega, by omega, by go_num, T2, G2, D'.out OK.out⟩
            · have m0 : (x == 0) = true := by simp [h0]
              have e : b = false := by
                cases b with
                | false => rfl
                | true => exact absurd (HB.out.1 rfl) (fun hr => hy0 (by have := (hr.ok hlt).none; rw [X.out, Y.out] at this; exact this h0))
              subst e
              have my : (y == 0) = false := by simp [hy0]
              have my2 : (y != 0) = true := by simp [hy0]
              clear h0 hy0
              go_wp2_with fail
              refine (WY _ hk.1 hk.2).mono ?_
              rintro e ux ⟨rfl, hw⟩
              rw [hw]; clear hw ux
              go_wp2_with fail
              refine (WV _ hv.1 hv.2).mono ?_
              rintro e ux ⟨rfl, hw⟩
              rw [hw]; clear hw ux
              go_wp2
              go_ret
              exact ⟨rfl, G2.out.2⟩
          · have m0 : (x == 0) = false := by simp [h0]
            have H0 : Hid (x ≠ 0) := h0
            have RW := row_is x hk.1 hk.2
            have KV : Hid ((0 ≤ x ∧ x ≤ 1000) ∧ 0 ≤ y ∧ y ≤ 4294967295) := ⟨hk, hv⟩
            clear h0
            go_wp2_with fail
            refine (WY _ hk.1 hk.2).mono ?_
            rintro e ux ⟨rfl, hw⟩
            rw [hw]; clear hw ux
            go_wp2_with fail
            refine (WV _ hv.1 hv.2).mono ?_
            rintro e ux ⟨rfl, hw⟩
            rw [hw]; clear hw ux
            go_wp2_with fail
            refine (RW _).mono ?_
            rintro e W3 ⟨v, rfl, hi3, hb3⟩
            obtain ⟨bb, off, c, rfl, hcell⟩ := rowL_isL hi3
            have T3 : Hid (TAt W3 n t) := T2.out.later hb3
            have G3 : Hid (Gd n w W3) := G2.out.later hb3
            have S3 : Hid (Bo W3 wq.heap.size [.int .i64 x, .int .i64 y]) := S2.out.later hb3
            have C3 : Hid (∀ j, j < 8 → W3.cell? ⟨bb, off + j, none⟩ = some (.int .i64 (rowAt x j : Nat))) := hcell
            clear hi3 hb3 hcell RW WY WV T2 G2 S2 c0 c1 hk hv
            generalize wq.heap.size = m at S3 hmn ⊢
            obtain ⟨d, hd⟩ : ∃ d, ds (home x) i = d := ⟨_, rfl⟩
            have HDS : Hid (ds (home x) i = d) := hd
            have hd8 : d < 8 := hd ▸ ds_lt _ _
            clear hd
            go_wp2_with fail
            go_loopg [39] 8 (fun gg s39 wt => ∃ j : Nat, j ≤ d ∧ 8 - j ≤ gg ∧ s39 = .int .i64 j ∧ Hid (TAt wt n t) ∧ Hid (Bo wt m [.int .i64 x, .int .i64 y]) ∧ Hid (Gd n w wt) ∧ Hid (∀ j, j < 8 → wt.cell? ⟨bb, off + j, none⟩ = some (.int .i64 (rowAt x j : Nat))) ∧ Hid (∀ l, l < j → ¬ Hit t x (rowAt x l)))
            case atStart => exact ⟨0, by omega, by omega, rfl, T3, S3, G3, C3, fun l hl => absurd hl (Nat.not_lt_zero _)⟩
            case round =>
              obtain ⟨j, hj, hgj, rfl, T, S, G, C, E⟩ := hrel
              clear T3 G3 S3 C3
              have hj1 : (j : Int) < 8 := by omega
              have hj0 : (0 : Int) ≤ (j : Int) := by omega
              have cj := C.out j (by omega)
              have hp := rowAt_lt x j
              obtain ⟨p, hpe⟩ : ∃ p, rowAt x j = p := ⟨_, rfl⟩
              have EP : Hid (rowAt x j = p) := hpe
              rw [hpe] at cj hp
              clear hpe
              have hp1 : (p : Int) < 8 := by omega
              have hp0 : (0 : Int) ≤ (p : Int) := by omega
              by_cases hjd : j = d
              · have epi : p = i := by rw [← EP.out, hjd, ← HDS.out]; exact row_ds x i hlt
                have mp : ((p : Int) == (i : Int)) = true := by simp [epi]
                have OK : Hid (Ok t i) := ⟨by rw [X.out]; exact KV.out.1, by rw [Y.out]; exact KV.out.2, fun h => absurd (X.out.symm.trans h) H0.out, fun _ l hl => by rw [X.out] at hl ⊢; exact E.out l (by rw [HDS.out] at hl; omega)⟩
                clear epi hjd
                go_wp2
                go_roundg (8 - (i + 1))
                case measure => omega
                case rel => exact ⟨i + 1, by omega, by omega, by go_num, T, G, D'.out OK.out⟩
              · have epi : p ≠ i := by
                  intro e
                  have h1 := ds_row x j (by omega)
                  rw [EP.out, e, HDS.out] at h1
                  omega
                have mp : ((p : Int) == (i : Int)) = false := by
                  have : ¬ ((p : Int) = (i : Int)) := by omega
                  simp [this]
                have cz := T.out.key hp
                obtain ⟨z, hz⟩ : ∃ z, t.k p = z := ⟨_, rfl⟩
                have Zf : Hid (t.k p = z) := hz
                rw [hz] at cz
                have cs := S.out.at 0 rfl
                clear hz epi
                by_cases hh : z = x ∨ z = 0
                · have e : b = false := by
                    cases b with
                    | false => rfl
                    | true =>
                      have := ((HB.out.1 rfl).ok hlt).row (by rw [X.out]; exact H0.out) j (by rw [X.out, HDS.out]; omega)
                      rw [X.out, EP.out] at this
                      exact absurd (show Hit t x p by unfold Hit; rw [Zf.out]; exact hh) this
                  subst e
                  by_cases hz0 : z = 0
                  · have m1 : (z == 0) = true := by simp [hz0]
                    clear hh hz0
                    go_wp2_with fail
                    go_quiet (fail)
                    go_wp2
                    go_ret
                    exact ⟨rfl, (G.out.drewN _).2⟩
                  · have m1 : (z == 0) = false := by simp [hz0]
                    have m2 : (z == x) = true := by simp [hh.resolve_right hz0]
                    clear hh hz0
                    go_wp2_with fail
                    go_quiet (fail)
                    go_wp2
                    go_ret
                    exact ⟨rfl, (G.out.drewN _).2⟩
                · have m1 : (z == 0) = false := by simp; exact fun e => hh (Or.inr e)
                  have m2 : (z == x) = false := by simp; exact fun e => hh (Or.inl e)
                  have NH : Hid (¬ Hit t x (rowAt x j)) := by show ¬ Hit t x (rowAt x j); rw [EP.out]; unfold Hit; rw [Zf.out]; exact hh
                  clear hh
                  go_wp2_with fail
                  go_quiet (fail)
                  go_wp2
                  go_roundg (8 - (j + 1))
                  case measure => omega
                  case rel =>
                    refine ⟨j + 1, by omega, by omega, by go_num, T.out.drewN _, S.out.drewN _, G.out.drewN _, fun l hl => C.out l hl, fun l hl => ?_⟩
                    by_cases e : l = j
                    · subst e; exact NH.out
                    · exact E.out l (by omega)
        · have e : b = false := by
            cases b with
            | false => rfl
            | true => exact absurd (HB.out.1 rfl) (fun hr => hv (by have := (hr.ok hlt).val; rw [Y.out] at this; exact this))
          subst e
          have hv2 : y < 0 ∨ 4294967295 < y := by omega
          have WN := rwithin_no y 0 4294967295
          clear hv
          go_wp2_with fail
          refine (WY _ hk.1 hk.2).mono ?_
          rintro e ux ⟨rfl, hw⟩
          rw [hw]; clear hw ux
          go_wp2_with fail
          refine (WN _ hv2).mono ?_
          rintro e ux ⟨rfl, hw⟩
          rw [hw]; clear hw ux
          go_wp2
          go_ret
          exact ⟨rfl, G2.out.2⟩
      · have e : b = false := by
          cases b with
          | false => rfl
          | true => exact absurd (HB.out.1 rfl) (fun hr => hk (by have := (hr.ok hlt).key; rw [X.out] at this; exact this))
        subst e
        have hk2 : x < 0 ∨ 1000 < x := by omega
        have WN := rwithin_no x 0 1000
        clear hk
        go_wp2_with fail
        refine (WN _ hk2).mono ?_
        rintro e ux ⟨rfl, hw⟩
        rw [hw]; clear hw ux
        go_wp2
        go_ret
        exact ⟨rfl, G2.out.2⟩
    · obtain rfl : i = 8 := by omega
      have RL := RLen_is t
      obtain ⟨l, hl⟩ : ∃ l, len t = l := ⟨_, rfl⟩
      have hl8 : l ≤ 8 := hl ▸ len_le t
      have HL : Hid (len t = l) := hl
      rw [hl] at RL
      clear hl
      go_wp2_with (refine wpList_load_mid rfl 31 _ rfl _ _ rfl t.all _ T.out.range HD.out rfl (HS.out t) ?_)
      refine (RL _).mono ?_
      rintro e w3 ⟨rfl, hb3⟩
      have G3 : Hid (Gd n w w3) := G.out.later hb3
      clear hb3
      by_cases h6 : l ≤ 6
      · have e : b = true := HB.out.2 (RT.of_ok (by rw [HL.out]; exact h6) D.out)
        subst e
        have h61 : (l : Int) ≤ 6 := by omega
        go_wp2
        go_ret
        exact ⟨by first | rfl | exact congrArg (fun b => Ending.returned (.bool b)) (decide_eq_true h61), G3.out.2⟩
      · have e : b = false := by
          cases b with
          | false => rfl
          | true => have := (HB.out.1 rfl).room; rw [HL.out] at this; omega
        subst e
        have h61 : ¬ (l : Int) ≤ 6 := by omega
        go_wp2
        go_ret
        exact ⟨by first | rfl | exact congrArg (fun b => Ending.returned (.bool b)) (decide_eq_false (by omega)), G3.out.2⟩
end Go.Proofs.YtbmgjpdfmgcigabDoor.Tab
