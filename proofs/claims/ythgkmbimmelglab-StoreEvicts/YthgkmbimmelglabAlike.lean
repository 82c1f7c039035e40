/- The keepers' alike, by its contract: of two stores that are the same in all lines it says so. -/
import Derived.Test.YthgkmbimmelglabStGood
import Derived.Test.YthgkmbimmelglabLoc
import Derived.Test.YthgkmbimmelglabKp1
namespace Go.Proofs.Ythgkmbimmelglab
open Go.RowKit

/-- A load under a guard that is met. -/
theorem wpList_load_wanted {P : Program} {ops : Array Oper} {rest : List Oper} {op : Oper} {a : Act} {w : World} {Q : Exit → Act → World → Prop} (hw : Region.wanted op (yielded ops a.tmps) = true) (ty : TypeId) (x : Operand) (ho : op.op = .load ty x)
    (b o : Nat) (hx : a.eval x = .pointer (some ⟨b, o, none⟩)) (cs : List Value) (d : TypeDesc) (hc : w.rangeAt b o cs)
    (hu : P.underlying ty = some d) (hd : d.isRow = true) (hi : (P.info? ty).map (·.size) = some cs.length)
    (h : wpList P ops Q rest (a.put op.dst (.agg cs.toArray)) w) : wpList P ops Q (op :: rest) a w := by
  simp only [wpList, hw, if_true]
  exact .inl (wp_load_mid ty x ho b o hx cs d hc hu hd hi h)

set_option maxHeartbeats 1000000 in
theorem alike_yes (b c : Nat) (s t : St) (w : World) (hs : StAt w b s) (ht : StAt w c t) (hg : ∀ i, i < 72 → s.good i = t.good i) (hn : ∀ i, i < 72 → s.now i = t.now i) :
    Calls Try.prog 23 #[.pointer (some ⟨b, 0, none⟩), .pointer (some ⟨c, 0, none⟩)] w fun e w' => e = .returned (.bool true) ∧ Gr w w' := by
  have HG : Hid _ := hg
  have HN : Hid _ := hn
  clear hg hn
  go_enter Try.func23, Try.ntmps23
  go_wp2
  go_loopw [5] (fun i wr => ∃ k : Nat, k ≤ 9 ∧ i = .int .i64 k ∧ Gr w wr)
    (fun i _ => 9 - (intOf i).toNat)
  case atStart => exact ⟨0, by omega, rfl, Gr.refl _⟩
  case round =>
    obtain ⟨k, hk, rfl, g⟩ := hrel
    by_cases hlt : k < 9
    · have s0 := hs.gr g
      have t0 := ht.gr g
      have e1 : same s.good (k * 8) t.good (k * 8) 8 = true := same_of _ _ _ _ _ fun i hi => HG.out _ (by omega)
      have e2 : same s.now (k * 8) t.now (k * 8) 8 = true := same_of _ _ _ _ _ fun i hi => HN.out _ (by omega)
      have he := line_equal s.good t.good (k * 8) (k * 8)
      have he2 := line_equal s.now t.now (k * 8) (k * 8)
      rw [e1] at he
      rw [e2] at he2
      have hd := line_desc
      have hj := line_size s.good (k * 8)
      have hj2 := line_size t.good (k * 8)
      clear e1 e2
      go_wp2_with fail
      refine (Good_yes k b s _ hlt s0).mono ?_
      rintro e u1 ⟨rfl, g1⟩
      have G1 : Hid (Gr w u1) := g.trans g1
      have t1 := t0.gr g1
      have s1 := s0.gr g1
      clear g g1 s0 t0
      go_wp2_with (refine wpList_store_mid rfl 29 _ _ rfl _ _ (row s.good (k * 8) 8).toArray rfl rfl (row_there _ _ _ _ _ rfl) (line_size2 s.good (k * 8)) (row_all s.good (k * 8)) ?_
                   have B2 := loc_born u1 #[.int .u64 0, .int .u64 0, .int .u64 0, .int .u64 0, .int .u64 0, .int .u64 0, .int .u64 0, .int .u64 0] 29 s.good (k * 8) rfl
                   generalize (u1.alloc (.cells #[.int .u64 0, .int .u64 0, .int .u64 0, .int .u64 0, .int .u64 0, .int .u64 0, .int .u64 0, .int .u64 0] 29)).setCells u1.heap.size 0 (row s.good (k * 8) 8) = u2 at B2 ⊢
                   generalize hn2 : u1.heap.size = n2 at *)
      obtain ⟨gB2, L2⟩ := B2
      have s2 := s1.gr gB2
      have t2 := t1.gr gB2
      have G2 : Hid (Gr w u2) := G1.out.trans gB2
      clear gB2 G1 s1 t1 hn2
      refine (Good_yes k c t _ hlt t2).mono ?_
      rintro e u3 ⟨rfl, g3⟩
      have s3 := s2.gr g3
      have t3 := t2.gr g3
      have G3 : Hid (Gr w u3) := G2.out.trans g3
      have L3 := range_gr L2 g3
      clear g3 G2 s2 t2 L2
      go_wp2_with (first
        | (refine wpList_store_mid rfl 29 _ _ rfl _ _ (row t.good (k * 8) 8).toArray rfl rfl (row_there _ _ _ _ _ rfl) (line_size2 t.good (k * 8)) (row_all t.good (k * 8)) ?_
           have B4 := loc_born u3 #[.int .u64 0, .int .u64 0, .int .u64 0, .int .u64 0, .int .u64 0, .int .u64 0, .int .u64 0, .int .u64 0] 29 t.good (k * 8) rfl
           generalize (u3.alloc (.cells #[.int .u64 0, .int .u64 0, .int .u64 0, .int .u64 0, .int .u64 0, .int .u64 0, .int .u64 0, .int .u64 0] 29)).setCells u3.heap.size 0 (row t.good (k * 8) 8) = u4 at B4 ⊢
           generalize hn4 : u3.heap.size = n4 at *
           have L4 := B4.2
           have M4 := range_gr L3 B4.1)
        | (refine wpList_load_wanted (by rfl) 29 _ rfl n2 _ rfl (row s.good (k * 8) 8) _ M4 hd rfl hj ?_)
        | (refine wpList_load_wanted (by rfl) 29 _ rfl n4 _ rfl (row t.good (k * 8) 8) _ L4 hd rfl hj2 ?_))
      have s4 := s3.gr B4.1
      have t4 := t3.gr B4.1
      have G4 : Hid (Gr w u4) := G3.out.trans B4.1
      refine (lineNow_yes k b s _ hlt s4).mono ?_
      rintro e u5 ⟨rfl, g5⟩
      have G5 : Hid (Gr w u5) := G4.out.trans g5
      have t5 := t4.gr g5
      go_wp2_with fail
      refine (lineNow_yes k c t _ hlt t5).mono ?_
      rintro e u6 ⟨rfl, g6⟩
      have G6 : Hid (Gr w u6) := G5.out.trans g6
      clear g5 g6 s4 t4 t5 G5 G4 G3 B4 L4 M4 L3 s3 t3
      go_wp2
      go_roundw
      case rel => exact ⟨k + 1, by omega, by go_num, G6.out⟩
      case measure => simp [intOf]; omega
    · go_wp2
      go_ret
      exact ⟨rfl, g⟩

theorem evicts_good (s : St) (t l i : Nat) (hi : i < 72) : ((s.fence t).stay l).good i = (((s.fence t).wish t l).fence t).good i := by
  have h1 : (9 * t + i / 8) / 9 = t := by omega
  by_cases e : i / 8 = l
  · simp [St.stay, St.fence, St.wish, e]
  · simp [St.stay, St.fence, St.wish, e, h1]
theorem idle_good (s : St) (t i : Nat) (hi : i < 72) : (s.fence t).good i = ((s.fence t).fence t).good i := by
  have h1 : (9 * t + i / 8) / 9 = t := by omega
  simp [St.fence, h1]
end Go.Proofs.Ythgkmbimmelglab
