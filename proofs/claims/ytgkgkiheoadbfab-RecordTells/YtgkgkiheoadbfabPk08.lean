/- Texts laid together: Package judge: Legal, of no deeds; Facts that the law on what is told asks; Package object: Size, by its contract; The keepers' things, by its contract. -/
import Derived.Test.YtgkgkiheoadbfabPk03
import Derived.Deep.DeepCutAuto
import Derived.Deep.RegionHeld3
import Derived.Test.YtgkgkiheoadbfabPk05
import Derived.Test.YtgkgkiheoadbfabPk07
namespace Go.Proofs.Ytgkgkiheoadbfab.Tab
set_option maxRecDepth 20000
open Go.RowKit
set_option linter.unusedVariables false

set_option maxHeartbeats 4000000 in
theorem legal_nil {kind : Nat} (h1 : 1 ≤ kind) (h6 : kind ≤ 6) (a : Addr) (c : Nat) (w : World) :
    Calls Try.prog 17 #[.int .i64 (kind : Nat), .slice (some a) 0 c] w (fun e w' => e = .returned (.tuple #[.agg (wl wz).toArray, .nilIface]) ∧ Below w.heap.size w w') := by
  have IS : Hid (∀ w : World, _) := obIs_yes (k := (kind : Nat)) (by omega) (by omega)
  clear h1 h6
  have hM : Hid _ := ((Ms.nil w).bornR wz_all.symm 37 (b := w.heap.size) rfl)
  go_enter Try.func17, Try.ntmps17
  go_wp2_with fail
  refine (IS.out _).mono ?_
  rintro e ux ⟨rfl, hw⟩
  rw [hw]; clear hw ux
  generalize World.alloc _ _ = W at hM ⊢
  generalize hsz : w.heap.size = n at hM ⊢
  clear hsz
  obtain ⟨bc, hbc⟩ : ∃ q, q = W.heap.size := ⟨_, rfl⟩
  replace hM := hid (hM.out.bornR wz_all.symm 37 hbc)
  have HBC : Hid _ := hbc
  clear hbc
  go_wp2_with fail
  rw [← HBC.out]
  generalize World.alloc _ _ = W at hM ⊢
  go_loopg [19] 0 (fun gg s19 wt => wt = W ∧ s19 = .int .i64 0)
  case atStart => exact ⟨rfl, rfl⟩
  case round =>
    obtain ⟨hw, rfl⟩ := hrel
    rw [hw]; clear hw wr
    go_wp2_with (first
      | (refine lR rfl (hM.out.at 0 rfl) rfl (rwC wz) ?_)
      | (refine sR rfl (hM.out.at 1 rfl) rfl ((rwC wz).len (rwC wz)) (rwC wz) ?_
         replace hM := hid (hM.out.put 1 rfl (wl wz) ((rwC wz).len (rwC wz)))
         generalize World.setCells _ _ _ _ = W at hM ⊢))
    exact bodyPost_ret (res1s Try.results17 (hM.out.at 1 rfl) (rwC wz) (.nilIface)) rfl ⟨rfl, hM.out.below⟩
end Go.Proofs.Ytgkgkiheoadbfab.Tab
namespace Go.Proofs.Ytgkgkiheoadbfab.Tab
set_option maxRecDepth 20000
open Go.RowKit
set_option linter.unusedVariables false

theorem Dds.form {w : World} {v : Value} {n : Nat} (h : Dds w v n) : ∃ (a : Option Addr) (c : Nat), v = .slice a n c := by
  rcases h with ⟨rfl, a, c, h, _⟩ | ⟨b, off, c, h, _⟩
  · exact ⟨a, c, h⟩
  · exact ⟨_, c, h⟩
theorem ob_newR (k : Nat) : ob (newR k) = wz := by funext j; unfold ob newR wz; rw [if_neg (by omega)]
theorem newR_0 (k : Nat) : newR k 0 = k := by unfold newR; rw [if_pos rfl]
theorem fits_yes {c v : Int} (h : Ft c v) (w : World) : Calls Try.prog 18 #[.agg #[.int .i64 c, .int .i64 v]] w fun e w' => e = .returned (.bool true) ∧ Below w.heap.size w w' := (opFits_yes h w).mono fun _ _ ⟨he, hg⟩ => ⟨he, hg.below⟩
end Go.Proofs.Ytgkgkiheoadbfab.Tab
namespace Go.Proofs.Ytgkgkiheoadbfab.Tab
set_option maxRecDepth 20000
open Go.RowKit
set_option linter.unusedVariables false

set_option maxHeartbeats 2000000 in
theorem obSize_is {kind : Int} {c : Nat → Nat} (hO : isOb kind c) (w : World) :
    Calls Try.prog 34 #[.int .i64 kind, .agg (wl c).toArray] w (fun e w' => e = .returned (.tuple #[.int .i64 (osz kind c), .nilIface]) ∧ Below w.heap.size w w') := by
  obtain ⟨d, cc, y, hd, ho⟩ : ∃ d cc y, odo kind c 6 0 0 = (d, cc, y) ∧ (cc = 1 ∧ y = osz kind c) := ⟨_, _, _, rfl, (odo_facts (k := 0) (x := 0) hO (show (1 : Int) ≤ 6 by decide) (by decide) (by decide) (by decide) (by decide) (by decide)).count rfl⟩
  obtain ⟨rfl, rfl⟩ := ho
  have D : Hid (∀ w : World, Calls Try.prog 24 #[.int .i64 kind, .agg (wl c).toArray, .agg #[.int .i64 6, .int .i64 0, .int .i64 0]] w (DidD w d 1 (osz kind c))) := fun w => by have := obDo_is hO (o := 6) (k := 0) (x := 0) ⟨by decide, by decide, by decide, by decide, by decide, by decide⟩ w; rw [hd] at this; exact this
  clear hO hd
  have hM : Hid _ := ((Ms.nil w).born (wl c) 37 (b := w.heap.size) rfl)
  go_enter Try.func34, Try.ntmps34
  go_wp2_with (first
    | (refine lR rfl (hM.out.at 0 rfl) rfl (rwC c) ?_))
  generalize World.alloc _ _ = W at hM ⊢
  generalize hsz : w.heap.size = n at hM ⊢
  clear hsz
  refine (D.out _).mono ?_
  rintro e W ⟨rfl, hb⟩
  replace hM := hid (hM.out.later hb)
  clear hb
  obtain ⟨b1, hb1⟩ : ∃ q, q = W.heap.size := ⟨_, rfl⟩
  replace hM := hid ((hM.out.bornR wz_all.symm 37 hb1).born [.int .i64 0, .int .i64 0] 42 (b := b1 + 1) (by simp [hb1]))
  have HB : Hid _ := hb1
  clear hb1
  go_wp2_with (first
    | (rw [← HB.out]; refine sR rfl (hM.out.at 1 rfl) rfl ((rwC wz).len (rwC d)) (rwC d) ?_
       replace hM := hid (hM.out.put 1 rfl (wl d) ((rwC wz).len (rwC d)))
       generalize World.setCells _ _ _ _ = W at hM ⊢)
    | (refine sR rfl (hM.out.at 0 rfl) rfl ((rwA 0 0).len (rwA 1 (osz kind c))) (rwA 1 (osz kind c)) ?_
       replace hM := hid (hM.out.put 0 rfl [.int .i64 1, .int .i64 (osz kind c)] ((rwA 0 0).len (rwA 1 (osz kind c))))
       generalize World.setCells _ _ _ _ = W at hM ⊢
       have c1 := hM.out.cell 0 1 rfl rfl))
  go_ret2
  exact ⟨rfl, hM.out.below⟩
set_option maxHeartbeats 2000000 in
theorem obSize_no {kind : Int} {c : Nat → Nat} (hO : ¬ isOb kind c) (w : World) :
    Calls Try.prog 34 #[.int .i64 kind, .agg (wl c).toArray] w (fun e w' => e = .returned (.tuple #[.int .i64 0, .iface 58 (.int .i64 1)]) ∧ Below w.heap.size w w') := by
  have D : Hid (∀ w : World, Calls Try.prog 24 #[.int .i64 kind, .agg (wl c).toArray, .agg #[.int .i64 6, .int .i64 0, .int .i64 0]] w (Refd w)) := fun w => obDo_no (fun h => hO h.2) w
  clear hO
  have hM : Hid _ := ((Ms.nil w).born (wl c) 37 (b := w.heap.size) rfl)
  go_enter Try.func34, Try.ntmps34
  go_wp2_with (first
    | (refine lR rfl (hM.out.at 0 rfl) rfl (rwC c) ?_))
  generalize World.alloc _ _ = W at hM ⊢
  generalize hsz : w.heap.size = n at hM ⊢
  clear hsz
  refine (D.out _).mono ?_
  rintro e W ⟨rfl, hb⟩
  replace hM := hid (hM.out.later hb)
  clear hb
  obtain ⟨b1, hb1⟩ : ∃ q, q = W.heap.size := ⟨_, rfl⟩
  replace hM := hid ((hM.out.bornR wz_all.symm 37 hb1).born [.int .i64 0, .int .i64 0] 42 (b := b1 + 1) (by simp [hb1]))
  have HB : Hid _ := hb1
  clear hb1
  go_wp2_with (first
    | (rw [← HB.out]; refine sR rfl (hM.out.at 1 rfl) rfl ((rwC wz).len (rwC wz)) (rwC wz) ?_
       replace hM := hid (hM.out.put 1 rfl (wl wz) ((rwC wz).len (rwC wz)))
       generalize World.setCells _ _ _ _ = W at hM ⊢)
    | (refine sR rfl (hM.out.at 0 rfl) rfl ((rwA 0 0).len (rwA 0 0)) (rwA 0 0) ?_
       replace hM := hid (hM.out.put 0 rfl [.int .i64 0, .int .i64 0] ((rwA 0 0).len (rwA 0 0)))
       generalize World.setCells _ _ _ _ = W at hM ⊢
       have c1 := hM.out.cell 0 1 rfl rfl))
  go_ret2
  exact ⟨rfl, hM.out.below⟩
end Go.Proofs.Ytgkgkiheoadbfab.Tab
namespace Go.Proofs.Ytgkgkiheoadbfab.Tab
set_option maxRecDepth 20000
open Go.RowKit
set_option linter.unusedVariables false

def cl (l : List Nat) : Nat → Nat := fun j => l.getD j 0
theorem th1 (w : World) : Calls Try.prog 24 #[.int .i64 2, .agg #[.int .u64 1, .int .u64 5, .int .u64 0, .int .u64 0, .int .u64 0, .int .u64 0, .int .u64 0, .int .u64 0, .int .u64 0, .int .u64 0, .int .u64 0, .int .u64 0, .int .u64 0, .int .u64 0, .int .u64 0, .int .u64 0, .int .u64 0], .agg #[.int .i64 2, .int .i64 0, .int .i64 0]] w (DidD w wz 1 5) := by
  have hO : isOb 2 (cl [1, 5]) := Or.inl ⟨Or.inr (Or.inl rfl), by decide⟩
  have h := obDo_is (o := 2) (k := 0) (x := 0) hO ⟨by decide, by decide, by decide, by decide, by decide, by decide⟩ w
  have e : odo 2 (cl [1, 5]) 2 0 0 = (lw [], 1, 5) := by
    rw [odo, if_neg (by decide), if_neg (by decide), ldo, if_neg (by decide), if_pos rfl]
    have : lst (cl [1, 5]) = [] ++ [5] := rfl
    rw [this, sdo_take]
  rw [e] at h
  have hz : wl (lw []) = wl wz := wl_congr fun j hj => by unfold lw wz; simp
  unfold DidD at h ⊢
  dsimp only at h
  rw [hz] at h
  exact h
theorem th2 (w : World) : Calls Try.prog 34 #[.int .i64 1, .agg #[.int .u64 2, .int .u64 7, .int .u64 8, .int .u64 0, .int .u64 0, .int .u64 0, .int .u64 0, .int .u64 0, .int .u64 0, .int .u64 0, .int .u64 0, .int .u64 0, .int .u64 0, .int .u64 0, .int .u64 0, .int .u64 0, .int .u64 0]] w fun e w' => e = .returned (.tuple #[.int .i64 2, .nilIface]) ∧ Below w.heap.size w w' := by
  have hO : isOb 1 (cl [2, 7, 8]) := Or.inl ⟨Or.inl rfl, by decide⟩
  have h := obSize_is hO w
  have e : osz 1 (cl [2, 7, 8]) = 2 := rfl
  rw [e] at h
  exact h
theorem th3 (w : World) : Calls Try.prog 28 #[.int .i64 4, .agg #[.int .u64 2, .int .u64 1, .int .u64 3, .int .u64 0, .int .u64 0, .int .u64 0, .int .u64 0, .int .u64 0, .int .u64 0, .int .u64 0, .int .u64 0, .int .u64 0, .int .u64 0, .int .u64 0, .int .u64 0, .int .u64 0, .int .u64 0]] w fun e w' => e = .returned (.bool true) ∧ Below w.heap.size w w' := by
  have hO : isOb 4 (cl [2, 1, 3]) := Or.inr (Or.inl ⟨rfl, by decide, fun i h0 h1 => by
    have h2 : i < 2 := h1
    obtain rfl : i = 1 := by omega
    decide⟩)
  exact obRight_is (c := cl [2, 1, 3]) (v := true) ⟨fun _ => hO, fun _ => rfl⟩ w
theorem th4 (w : World) : Calls Try.prog 28 #[.int .i64 4, .agg #[.int .u64 2, .int .u64 3, .int .u64 1, .int .u64 0, .int .u64 0, .int .u64 0, .int .u64 0, .int .u64 0, .int .u64 0, .int .u64 0, .int .u64 0, .int .u64 0, .int .u64 0, .int .u64 0, .int .u64 0, .int .u64 0, .int .u64 0]] w fun e w' => e = .returned (.bool false) ∧ Below w.heap.size w w' := by
  have hO : ¬ isOb 4 (cl [2, 3, 1]) := by
    rintro (⟨h | h | h, _⟩ | ⟨_, _, h⟩ | ⟨h, _⟩ | ⟨h, _⟩)
    · exact absurd h (by decide)
    · exact absurd h (by decide)
    · exact absurd h (by decide)
    · exact absurd (h 1 (by decide) (by decide)) (by decide)
    · exact absurd h (by decide)
    · exact absurd h (by decide)
  exact obRight_is (c := cl [2, 3, 1]) (v := false) ⟨fun h => absurd h (by decide), fun h => absurd h hO⟩ w
set_option maxHeartbeats 4000000 in
set_option maxRecDepth 20000 in
theorem things_is  (w : World) :
    Calls Try.prog 16 #[] w (fun e w' => e = .returned (.bool true) ∧ Below w.heap.size w w') := by
  have HA : Hid ((Try.prog.info? 42).map (·.size) = some 2) := answer_sz
  obtain ⟨fs, ha⟩ := answer_st
  have HDA : Hid _ := ha
  clear ha
  obtain ⟨nb, eb, hd⟩ := cells_array
  have HC : Hid _ := hd
  clear hd
  have HCS : Hid _ := cells_size
  have HCZ : Hid _ := cells_size2
  have g0 : Hid (Gd w.heap.size w w) := Gd.refl w
  have EZ : Hid (∀ w : World, _) := fun w => cells_zero w
  go_enter Try.func16, Try.ntmps16
  go_wp2_with fail
  refine (th1 _).mono ?_
  rintro e u1q ⟨rfl, hb⟩
  have h2q : Hid (Gd w.heap.size w u1q) := g0.out.later hb
  clear g0
  clear hb
  generalize hsz : w.heap.size = n at h2q  ⊢
  have HSZ : Hid (w.heap.size = n) := hsz
  clear hsz
  have l3q : n ≤ u1q.heap.size := h2q.out.le
  have h4q : Hid (Gd n w (u1q.alloc (.cells #[.int .u64 0, .int .u64 0, .int .u64 0, .int .u64 0, .int .u64 0, .int .u64 0, .int .u64 0, .int .u64 0, .int .u64 0, .int .u64 0, .int .u64 0, .int .u64 0, .int .u64 0, .int .u64 0, .int .u64 0, .int .u64 0, .int .u64 0] 37))) := h2q.out.new (.cells #[.int .u64 0, .int .u64 0, .int .u64 0, .int .u64 0, .int .u64 0, .int .u64 0, .int .u64 0, .int .u64 0, .int .u64 0, .int .u64 0, .int .u64 0, .int .u64 0, .int .u64 0, .int .u64 0, .int .u64 0, .int .u64 0, .int .u64 0] 37)
  clear h2q
  have h5q : Hid (Bo (u1q.alloc (.cells #[.int .u64 0, .int .u64 0, .int .u64 0, .int .u64 0, .int .u64 0, .int .u64 0, .int .u64 0, .int .u64 0, .int .u64 0, .int .u64 0, .int .u64 0, .int .u64 0, .int .u64 0, .int .u64 0, .int .u64 0, .int .u64 0, .int .u64 0] 37)) u1q.heap.size (wl wz)) := Bo.born u1q (wl wz) 37 (by simp)
  have h6q : Hid (Gd n w ((u1q.alloc (.cells #[.int .u64 0, .int .u64 0, .int .u64 0, .int .u64 0, .int .u64 0, .int .u64 0, .int .u64 0, .int .u64 0, .int .u64 0, .int .u64 0, .int .u64 0, .int .u64 0, .int .u64 0, .int .u64 0, .int .u64 0, .int .u64 0, .int .u64 0] 37)).alloc (.cells #[.int .i64 0, .int .i64 0] 42))) := h4q.out.new (.cells #[.int .i64 0, .int .i64 0] 42)
  have h7q : Hid (Bo ((u1q.alloc (.cells #[.int .u64 0, .int .u64 0, .int .u64 0, .int .u64 0, .int .u64 0, .int .u64 0, .int .u64 0, .int .u64 0, .int .u64 0, .int .u64 0, .int .u64 0, .int .u64 0, .int .u64 0, .int .u64 0, .int .u64 0, .int .u64 0, .int .u64 0] 37)).alloc (.cells #[.int .i64 0, .int .i64 0] 42)) u1q.heap.size (wl wz)) := h5q.out.new (.cells #[.int .i64 0, .int .i64 0] 42)
  clear h4q h5q
  have h8q : Hid (Bo ((u1q.alloc (.cells #[.int .u64 0, .int .u64 0, .int .u64 0, .int .u64 0, .int .u64 0, .int .u64 0, .int .u64 0, .int .u64 0, .int .u64 0, .int .u64 0, .int .u64 0, .int .u64 0, .int .u64 0, .int .u64 0, .int .u64 0, .int .u64 0, .int .u64 0] 37)).alloc (.cells #[.int .i64 0, .int .i64 0] 42)) (u1q.heap.size + 1) [.int .i64 0, .int .i64 0]) := Bo.born (u1q.alloc (.cells #[.int .u64 0, .int .u64 0, .int .u64 0, .int .u64 0, .int .u64 0, .int .u64 0, .int .u64 0, .int .u64 0, .int .u64 0, .int .u64 0, .int .u64 0, .int .u64 0, .int .u64 0, .int .u64 0, .int .u64 0, .int .u64 0, .int .u64 0] 37)) [.int .i64 0, .int .i64 0] 42 (by simp)
  go_wp2_with (first
    | (refine wpList_store_mid rfl 37 _ _ rfl u1q.heap.size _ (wl wz).toArray rfl rfl (h7q.out.thereW wz) (HCZ.out wz) (wl_all wz) ?_
       have h9q : Hid (Gd n w (((u1q.alloc (.cells #[.int .u64 0, .int .u64 0, .int .u64 0, .int .u64 0, .int .u64 0, .int .u64 0, .int .u64 0, .int .u64 0, .int .u64 0, .int .u64 0, .int .u64 0, .int .u64 0, .int .u64 0, .int .u64 0, .int .u64 0, .int .u64 0, .int .u64 0] 37)).alloc (.cells #[.int .i64 0, .int .i64 0] 42)).setCells u1q.heap.size 0 (wl wz))) := h6q.out.asideL (by omega) 0 (wl wz)
       have h10q : Hid (Bo (((u1q.alloc (.cells #[.int .u64 0, .int .u64 0, .int .u64 0, .int .u64 0, .int .u64 0, .int .u64 0, .int .u64 0, .int .u64 0, .int .u64 0, .int .u64 0, .int .u64 0, .int .u64 0, .int .u64 0, .int .u64 0, .int .u64 0, .int .u64 0, .int .u64 0] 37)).alloc (.cells #[.int .i64 0, .int .i64 0] 42)).setCells u1q.heap.size 0 (wl wz)) u1q.heap.size (wl wz)) := h7q.out.setW wz
       have h11q : Hid (Bo (((u1q.alloc (.cells #[.int .u64 0, .int .u64 0, .int .u64 0, .int .u64 0, .int .u64 0, .int .u64 0, .int .u64 0, .int .u64 0, .int .u64 0, .int .u64 0, .int .u64 0, .int .u64 0, .int .u64 0, .int .u64 0, .int .u64 0, .int .u64 0, .int .u64 0] 37)).alloc (.cells #[.int .i64 0, .int .i64 0] 42)).setCells u1q.heap.size 0 (wl wz)) (u1q.heap.size + 1) [.int .i64 0, .int .i64 0]) := h8q.out.asideL (by omega) 0 (wl wz)
       clear h6q h7q h8q
       generalize (((u1q.alloc (.cells #[.int .u64 0, .int .u64 0, .int .u64 0, .int .u64 0, .int .u64 0, .int .u64 0, .int .u64 0, .int .u64 0, .int .u64 0, .int .u64 0, .int .u64 0, .int .u64 0, .int .u64 0, .int .u64 0, .int .u64 0, .int .u64 0, .int .u64 0] 37)).alloc (.cells #[.int .i64 0, .int .i64 0] 42)).setCells u1q.heap.size 0 (wl wz)) = u12q at h9q h10q h11q  ⊢)
    | (refine wpList_store_mid rfl 42 _ _ rfl (u1q.heap.size + 1) _ #[.int .i64 (1), .int .i64 (5)] rfl rfl h11q.out.there2 HA.out (two_one _ _) ?_
       have h13q : Hid (Gd n w (u12q.setCells (u1q.heap.size + 1) 0 [.int .i64 (1), .int .i64 (5)])) := h9q.out.asideL (by omega) 0 [.int .i64 (1), .int .i64 (5)]
       have h14q : Hid (Bo (u12q.setCells (u1q.heap.size + 1) 0 [.int .i64 (1), .int .i64 (5)]) u1q.heap.size (wl wz)) := h10q.out.asideL (by omega) 0 [.int .i64 (1), .int .i64 (5)]
       have h15q : Hid (Bo (u12q.setCells (u1q.heap.size + 1) 0 [.int .i64 (1), .int .i64 (5)]) (u1q.heap.size + 1) [.int .i64 (1), .int .i64 (5)]) := h11q.out.set2 (.int .i64 (1)) (.int .i64 (5))
       clear h9q h10q h11q
       generalize (u12q.setCells (u1q.heap.size + 1) 0 [.int .i64 (1), .int .i64 (5)]) = u16q at h13q h14q h15q  ⊢))
  refine (th2 _).mono ?_
  rintro e u17q ⟨rfl, hb⟩
  have h18q : Hid (Gd n w u17q) := h13q.out.later hb
  have h19q : Hid (Bo u17q u1q.heap.size (wl wz)) := h14q.out.later hb
  have h20q : Hid (Bo u17q (u1q.heap.size + 1) [.int .i64 (1), .int .i64 (5)]) := h15q.out.later hb
  clear h13q h14q h15q
  clear hb
  have c21q := h20q.out.at 0 rfl
  have c22q := h20q.out.at 1 rfl
  have ez := cells_zero
  go_wp2_with (first
    | (refine wpList_load_wanted (by rfl) 37 _ rfl u1q.heap.size _ rfl (wl wz) _ h19q.out.range HC.out rfl (HCS.out wz) ?_))
  refine (th3 _).mono ?_
  rintro e u23q ⟨rfl, hb⟩
  have h24q : Hid (Gd n w u23q) := h18q.out.later hb
  have h25q : Hid (Bo u23q u1q.heap.size (wl wz)) := h19q.out.later hb
  have h26q : Hid (Bo u23q (u1q.heap.size + 1) [.int .i64 (1), .int .i64 (5)]) := h20q.out.later hb
  clear h18q h19q h20q
  clear hb
  go_wp2_with fail
  refine (th4 _).mono ?_
  rintro e u27q ⟨rfl, hb⟩
  have h28q : Hid (Gd n w u27q) := h24q.out.later hb
  have h29q : Hid (Bo u27q u1q.heap.size (wl wz)) := h25q.out.later hb
  have h30q : Hid (Bo u27q (u1q.heap.size + 1) [.int .i64 (1), .int .i64 (5)]) := h26q.out.later hb
  clear h24q h25q h26q
  clear hb
  go_wp2
  go_ret
  exact ⟨rfl, by first | exact h28q.out.low | exact h28q.out.2⟩
end Go.Proofs.Ytgkgkiheoadbfab.Tab
