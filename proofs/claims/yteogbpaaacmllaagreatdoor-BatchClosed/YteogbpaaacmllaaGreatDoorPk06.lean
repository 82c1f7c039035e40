/- Texts laid together: Package object: withList, by its contract: of queues, stacks, deques, heaps; Package object: Do, by its contract; Package record: Done, where it refuses; Package word: inside, Bit, Flip, by their contracts. -/
import Derived.Test.YteogbpaaacmllaaGreatDoorPk03
import Derived.Test.YteogbpaaacmllaaGreatDoorPk02
import Derived.Test.YteogbpaaacmllaaGreatDoorPk05
import Derived.Test.YteogbpaaacmllaaGreatDoorPk04
import Derived.Deep.DeepCutAuto
import Derived.Deep.RegionHeld3
import Derived.WalkKit
namespace Go.Proofs.YteogbpaaacmllaaGreatDoor.Tab
set_option maxRecDepth 20000
open Go.RowKit
set_option linter.unusedVariables false

set_option maxHeartbeats 4000000 in
theorem wlist_any {c : Nat → Nat} {b fk : Nat} {ys : List Int} {o k x cc y : Int} (he : ∀ args (w : World), (callFunc fk args).run Tryz.prog w = .ok (.enter fk args) w) (hW : WList c) (hD : ∀ B W v, IsL B W v (lst c) → Calls Tryz.prog fk #[v, .agg #[.int .i64 o, .int .i64 k, .int .i64 x]] W (Made W ys cc y)) (hl : ys.length ≤ 6) (hv : ∀ z ∈ ys, 0 ≤ z ∧ z ≤ 4294967295) (w : World) (hb : Bo w b [fv fk]) :
    Calls Tryz.prog 118 #[.agg (wl c).toArray, .agg #[.int .i64 o, .int .i64 k, .int .i64 x], .pointer (some ⟨b, 0, none⟩)] w (fun e w' => e = .returned (.tuple #[.agg (wl (lw ys)).toArray, .agg #[.int .i64 cc, .int .i64 y]]) ∧ Below w.heap.size w w') := by
  have LI : Hid (∀ w : World, _) := fun w => list_is hW w
  have DD : Hid _ := hD
  have LW : Hid (∀ B W v, IsL B W v ys → _) := fun B W v h => listWords_is (B := B) (w := W) (v := v) h hl hv
  generalize lst c = xs at *
  clear hW hD hl hv
  have hF : Hid (Bo w b [.func (.func fk) #[] #[]]) := hb
  clear hb
  have hM : Hid _ := (((((Ms.nil w).born (wl c) 119 (b := w.heap.size) rfl).born [.int .i64 o, .int .i64 k, .int .i64 x] 44 (b := w.heap.size + 1) (by simp)).bornR wz_all.symm 119 (b := w.heap.size + 2) (by simp)).born [.int .i64 0, .int .i64 0] 58 (b := w.heap.size + 3) (by simp))
  go_enter Tryz.func118, Tryz.ntmps118
  go_wp2_with fail
  generalize World.alloc _ _ = W at hM ⊢
  generalize hsz : w.heap.size = n at hM ⊢
  clear hsz
  go_cut [7, 8] (fun s7 s8 wx => ∃ bz8 B7 : Nat, s8 = .pointer (some ⟨bz8, 0, none⟩) ∧ Hid (Ms n w wx [((n + 2), (wl wz)), ((n + 3), [.int .i64 0, .int .i64 0]), (bz8, [.int .i64 cc, .int .i64 y])] [(B7, s7, ys)]))
  case first =>
    replace hM := hid (hM.out.drew)
    refine wp_region_held_drew (S := fun w' => Bo w' b [.func (.func fk) #[] #[]] ∧ Bo w' n (wl c) ∧ Bo w' (n + 1) [.int .i64 o, .int .i64 k, .int .i64 x]) (by kernel_rfl) ⟨hF.out.later hM.out.below, hM.out.at 3 rfl, hM.out.at 2 rfl⟩ (fun hH => ?_)
    generalize World.drew _ = W at hM hH  ⊢
    refine tk 0 rfl hH ?_ (by intro w h; have c0 := h.1.at 0 rfl; clear h; go_simp; try with_reducible rfl)
    simp only [Act.put, p1, p2, p3]
    refine tkR 1 rfl hH (fun _ h => h.2.1) (rwC c) ?_
    simp only [Act.put, p1, p2, p3]
    refine tk 3 rfl hH ?_ (by intro w h; have c0 := h.2.2.at 0 rfl; have c1 := h.2.2.at 1 rfl; have c2 := h.2.2.at 2 rfl; clear h; go_simp; try with_reducible rfl)
    simp only [Act.put, p1, p2, p3]
    refine rdn [2, 8] ?_
    refine rdc rfl (fun K hK => ?_) ?_
    · go_simp
      refine (LI.out _).mono ?_
      rintro e W ⟨v1, rfl, I, hb⟩
      replace hM := hid (hM.out.laterL hb I (Nat.le_refl _))
      clear hb
      go_wp2_with fail
      refine hK.out _ _ ⟨hF.out.later hM.out.below, hM.out.at 3 rfl, hM.out.at 2 rfl⟩ (fun hH => ?_)
      clear hK K
      try simp only [Act.put, p1, p2, p3]
      refine rdn [4, 8] ?_
      refine rdc rfl (fun K hK => ?_) ?_
      · go_simp
        refine (DD.out _ _ _ (hM.out.isL 0 rfl)).mono ?_
        rintro e W ⟨v2, rfl, I, hb⟩
        replace hM := hid (hM.out.laterL hb I (Nat.le_refl _))
        clear hb
        go_wp2_with fail
        refine hK.out _ _ ⟨hF.out.later hM.out.below, hM.out.at 3 rfl, hM.out.at 2 rfl⟩ (fun hH => ?_)
        clear hK K
        try simp only [Act.put, p1, p2, p3]
        refine tk 5 rfl hH ?_
        simp only [Act.put, p1, p2, p3]
        refine tk 6 rfl hH ?_
        simp only [Act.put, p1, p2, p3]
        refine tk 7 rfl hH ?_
        simp only [Act.put, p1, p2, p3]
        refine rd1 8 rfl (fun K hK => ?_)
        go_simp
        replace hM := hid (hM.out.born [.int .i64 0, .int .i64 0] 58 rfl)
        refine hK.out _ _ ⟨hF.out.later hM.out.below, hM.out.at 4 rfl, hM.out.at 3 rfl⟩ (fun hH => ?_)
        clear hK K
        generalize W.heap.size = bq1 at hM hH ⊢
        generalize World.alloc _ _ = W at hM hH  ⊢
        try simp only [Act.put, p1, p2, p3]
        refine tk 9 rfl hH ?_
        simp only [Act.put, p1, p2, p3]
        refine rd1 10 rfl (fun K hK => ?_)
        refine stR rfl (hM.out.at 0 rfl) ((rwA 0 0).len (rwA cc y)) (rwA cc y) ?_
        simp only [Act.put]
        replace hM := hid (hM.out.put 0 rfl [.int .i64 cc, .int .i64 y] ((rwA 0 0).len (rwA cc y)))
        refine hK.out _ _ ⟨hF.out.later hM.out.below, hM.out.at 4 rfl, hM.out.at 3 rfl⟩ (fun hH => ?_)
        clear hK K
        generalize World.setCells _ _ _ _ = W at hM hH ⊢
        try simp only [Act.put, p1, p2, p3]
        refine wpAnyH_done (by kernel_rfl) ?_ _
        go_wp2_with fail
        go_meet
        case rel => exact ⟨bq1, _, rfl, (hM.out.pick [2, 1, 0]).pickL [0]⟩
      refine rdc rfl (fun K hK => ?_) AllReadyH.nil
      go_simp
      replace hM := hid (hM.out.born [.int .i64 0, .int .i64 0] 58 rfl)
      refine hK.out _ _ ⟨hF.out.later hM.out.below, hM.out.at 4 rfl, hM.out.at 3 rfl⟩ (fun hH => ?_)
      clear hK K
      generalize W.heap.size = bq1 at hM hH ⊢
      generalize World.alloc _ _ = W at hM hH  ⊢
      try simp only [Act.put, p1, p2, p3]
      refine rd1 4 rfl (fun K hK => ?_)
      go_simp
      refine (DD.out _ _ _ (hM.out.isL 0 rfl)).mono ?_
      rintro e W ⟨v2, rfl, I, hb⟩
      replace hM := hid (hM.out.laterL hb I (Nat.le_refl _))
      clear hb
      go_wp2_with fail
      refine hK.out _ _ ⟨hF.out.later hM.out.below, hM.out.at 4 rfl, hM.out.at 3 rfl⟩ (fun hH => ?_)
      clear hK K
      try simp only [Act.put, p1, p2, p3]
      refine tk 5 rfl hH ?_
      simp only [Act.put, p1, p2, p3]
      refine tk 6 rfl hH ?_
      simp only [Act.put, p1, p2, p3]
      refine tk 7 rfl hH ?_
      simp only [Act.put, p1, p2, p3]
      refine tk 9 rfl hH ?_
      simp only [Act.put, p1, p2, p3]
      refine rd1 10 rfl (fun K hK => ?_)
      refine stR rfl (hM.out.at 0 rfl) ((rwA 0 0).len (rwA cc y)) (rwA cc y) ?_
      simp only [Act.put]
      replace hM := hid (hM.out.put 0 rfl [.int .i64 cc, .int .i64 y] ((rwA 0 0).len (rwA cc y)))
      refine hK.out _ _ ⟨hF.out.later hM.out.below, hM.out.at 4 rfl, hM.out.at 3 rfl⟩ (fun hH => ?_)
      clear hK K
      generalize World.setCells _ _ _ _ = W at hM hH ⊢
      try simp only [Act.put, p1, p2, p3]
      refine wpAnyH_done (by kernel_rfl) ?_ _
      go_wp2_with fail
      go_meet
      case rel => exact ⟨bq1, _, rfl, (hM.out.pick [2, 1, 0]).pickL [0]⟩
    refine rdc rfl (fun K hK => ?_) AllReadyH.nil
    go_simp
    replace hM := hid (hM.out.born [.int .i64 0, .int .i64 0] 58 rfl)
    refine hK.out _ _ ⟨hF.out.later hM.out.below, hM.out.at 4 rfl, hM.out.at 3 rfl⟩ (fun hH => ?_)
    clear hK K
    generalize W.heap.size = bq1 at hM hH ⊢
    generalize World.alloc _ _ = W at hM hH  ⊢
    try simp only [Act.put, p1, p2, p3]
    refine rd1 2 rfl (fun K hK => ?_)
    go_simp
    refine (LI.out _).mono ?_
    rintro e W ⟨v1, rfl, I, hb⟩
    replace hM := hid (hM.out.laterL hb I (Nat.le_refl _))
    clear hb
    go_wp2_with fail
    refine hK.out _ _ ⟨hF.out.later hM.out.below, hM.out.at 4 rfl, hM.out.at 3 rfl⟩ (fun hH => ?_)
    clear hK K
    try simp only [Act.put, p1, p2, p3]
    refine rd1 4 rfl (fun K hK => ?_)
    go_simp
    refine (DD.out _ _ _ (hM.out.isL 0 rfl)).mono ?_
    rintro e W ⟨v2, rfl, I, hb⟩
    replace hM := hid (hM.out.laterL hb I (Nat.le_refl _))
    clear hb
    go_wp2_with fail
    refine hK.out _ _ ⟨hF.out.later hM.out.below, hM.out.at 4 rfl, hM.out.at 3 rfl⟩ (fun hH => ?_)
    clear hK K
    try simp only [Act.put, p1, p2, p3]
    refine tk 5 rfl hH ?_
    simp only [Act.put, p1, p2, p3]
    refine tk 6 rfl hH ?_
    simp only [Act.put, p1, p2, p3]
    refine tk 7 rfl hH ?_
    simp only [Act.put, p1, p2, p3]
    refine tk 9 rfl hH ?_
    simp only [Act.put, p1, p2, p3]
    refine rd1 10 rfl (fun K hK => ?_)
    refine stR rfl (hM.out.at 0 rfl) ((rwA 0 0).len (rwA cc y)) (rwA cc y) ?_
    simp only [Act.put]
    replace hM := hid (hM.out.put 0 rfl [.int .i64 cc, .int .i64 y] ((rwA 0 0).len (rwA cc y)))
    refine hK.out _ _ ⟨hF.out.later hM.out.below, hM.out.at 4 rfl, hM.out.at 3 rfl⟩ (fun hH => ?_)
    clear hK K
    generalize World.setCells _ _ _ _ = W at hM hH ⊢
    try simp only [Act.put, p1, p2, p3]
    refine wpAnyH_done (by kernel_rfl) ?_ _
    go_wp2_with fail
    go_meet
    case rel => exact ⟨bq1, _, rfl, (hM.out.pick [2, 1, 0]).pickL [0]⟩
  case rest =>
    obtain ⟨bz8, B7, rfl, hM⟩ := hcut
    generalize wc = W at hM ⊢
    go_wp2_with fail
    replace hM := hid (hM.out.drew)
    refine wp_region_held_drew (S := fun w' => Bo w' bz8 [.int .i64 cc, .int .i64 y]) (by kernel_rfl) (hM.out.at 2 rfl) (fun hH => ?_)
    generalize World.drew _ = W at hM hH  ⊢
    refine tk 0 rfl hH ?_
    simp only [Act.put, p1, p2, p3]
    refine tk 2 rfl hH ?_ (by intro w h; have c0 := h.at 0 rfl; have c1 := h.at 1 rfl; clear h; go_simp; try with_reducible rfl)
    simp only [Act.put, p1, p2, p3]
    refine rd1 1 rfl (fun K hK => ?_)
    go_simp
    refine (LW.out _ _ _ (hM.out.isL 0 rfl)).mono ?_
    rintro e W ⟨rfl, hb⟩
    replace hM := hid (hM.out.later hb)
    clear hb
    go_wp2_with fail
    refine hK.out _ _ (hM.out.at 2 rfl) (fun hH => ?_)
    clear hK K
    try simp only [Act.put, p1, p2, p3]
    refine rd1 3 rfl (fun K hK => ?_)
    refine stR rfl (hM.out.at 0 rfl) ((rwC wz).len (rwC (lw ys))) (rwC (lw ys)) ?_
    simp only [Act.put]
    replace hM := hid (hM.out.put 0 rfl (wl (lw ys)) ((rwC wz).len (rwC (lw ys))))
    refine hK.out _ _ (hM.out.at 2 rfl) (fun hH => ?_)
    clear hK K
    generalize World.setCells _ _ _ _ = W at hM hH ⊢
    try simp only [Act.put, p1, p2, p3]
    refine rd1 4 rfl (fun K hK => ?_)
    refine stR rfl (hM.out.at 1 rfl) ((rwA 0 0).len (rwA cc y)) (rwA cc y) ?_
    simp only [Act.put]
    replace hM := hid (hM.out.put 1 rfl [.int .i64 cc, .int .i64 y] ((rwA 0 0).len (rwA cc y)))
    refine hK.out _ _ (hM.out.at 2 rfl) (fun hH => ?_)
    clear hK K
    generalize World.setCells _ _ _ _ = W at hM hH ⊢
    try simp only [Act.put, p1, p2, p3]
    refine wpAnyH_done (by kernel_rfl) ?_ _
    go_wp2
    exact bodyPost_ret (res2 Tryz.results118 (hM.out.at 0 rfl) (rwC (lw ys)) (hM.out.at 1 rfl) (rwA _ _)) rfl ⟨rfl, hM.out.below⟩
theorem he_q (args : Array Value) (w : World) : (callFunc 108 args).run Tryz.prog w = .ok (.enter 108 args) w := by kernel_rfl
theorem wlist_q {c : Nat → Nat} {b : Nat} {ys : List Int} {o k x cc y : Int} (hW : WList c) (hD : ∀ B W v, IsL B W v (lst c) → Calls Tryz.prog 108 #[v, .agg #[.int .i64 o, .int .i64 k, .int .i64 x]] W (Made W ys cc y)) (hl : ys.length ≤ 6) (hv : ∀ z ∈ ys, 0 ≤ z ∧ z ≤ 4294967295) (w : World) (hb : Bo w b [fv 108]) :
    Calls Tryz.prog 118 #[.agg (wl c).toArray, .agg #[.int .i64 o, .int .i64 k, .int .i64 x], .pointer (some ⟨b, 0, none⟩)] w (fun e w' => e = .returned (.tuple #[.agg (wl (lw ys)).toArray, .agg #[.int .i64 cc, .int .i64 y]]) ∧ Below w.heap.size w w') := wlist_any he_q hW hD hl hv w hb
theorem he_s (args : Array Value) (w : World) : (callFunc 109 args).run Tryz.prog w = .ok (.enter 109 args) w := by kernel_rfl
theorem wlist_s {c : Nat → Nat} {b : Nat} {ys : List Int} {o k x cc y : Int} (hW : WList c) (hD : ∀ B W v, IsL B W v (lst c) → Calls Tryz.prog 109 #[v, .agg #[.int .i64 o, .int .i64 k, .int .i64 x]] W (Made W ys cc y)) (hl : ys.length ≤ 6) (hv : ∀ z ∈ ys, 0 ≤ z ∧ z ≤ 4294967295) (w : World) (hb : Bo w b [fv 109]) :
    Calls Tryz.prog 118 #[.agg (wl c).toArray, .agg #[.int .i64 o, .int .i64 k, .int .i64 x], .pointer (some ⟨b, 0, none⟩)] w (fun e w' => e = .returned (.tuple #[.agg (wl (lw ys)).toArray, .agg #[.int .i64 cc, .int .i64 y]]) ∧ Below w.heap.size w w') := wlist_any he_s hW hD hl hv w hb
theorem he_d (args : Array Value) (w : World) : (callFunc 110 args).run Tryz.prog w = .ok (.enter 110 args) w := by kernel_rfl
theorem wlist_d {c : Nat → Nat} {b : Nat} {ys : List Int} {o k x cc y : Int} (hW : WList c) (hD : ∀ B W v, IsL B W v (lst c) → Calls Tryz.prog 110 #[v, .agg #[.int .i64 o, .int .i64 k, .int .i64 x]] W (Made W ys cc y)) (hl : ys.length ≤ 6) (hv : ∀ z ∈ ys, 0 ≤ z ∧ z ≤ 4294967295) (w : World) (hb : Bo w b [fv 110]) :
    Calls Tryz.prog 118 #[.agg (wl c).toArray, .agg #[.int .i64 o, .int .i64 k, .int .i64 x], .pointer (some ⟨b, 0, none⟩)] w (fun e w' => e = .returned (.tuple #[.agg (wl (lw ys)).toArray, .agg #[.int .i64 cc, .int .i64 y]]) ∧ Below w.heap.size w w') := wlist_any he_d hW hD hl hv w hb
theorem he_h (args : Array Value) (w : World) : (callFunc 111 args).run Tryz.prog w = .ok (.enter 111 args) w := by kernel_rfl
theorem wlist_h {c : Nat → Nat} {b : Nat} {ys : List Int} {o k x cc y : Int} (hW : WList c) (hD : ∀ B W v, IsL B W v (lst c) → Calls Tryz.prog 111 #[v, .agg #[.int .i64 o, .int .i64 k, .int .i64 x]] W (Made W ys cc y)) (hl : ys.length ≤ 6) (hv : ∀ z ∈ ys, 0 ≤ z ∧ z ≤ 4294967295) (w : World) (hb : Bo w b [fv 111]) :
    Calls Tryz.prog 118 #[.agg (wl c).toArray, .agg #[.int .i64 o, .int .i64 k, .int .i64 x], .pointer (some ⟨b, 0, none⟩)] w (fun e w' => e = .returned (.tuple #[.agg (wl (lw ys)).toArray, .agg #[.int .i64 cc, .int .i64 y]]) ∧ Below w.heap.size w w') := wlist_any he_h hW hD hl hv w hb
end Go.Proofs.YteogbpaaacmllaaGreatDoor.Tab
namespace Go.Proofs.YteogbpaaacmllaaGreatDoor.Tab
set_option maxRecDepth 20000
open Go.RowKit
set_option linter.unusedVariables false

theorem he_list (args : Array Value) (w : World) : (callFunc 118 args).run Tryz.prog w = .ok (.enter 118 args) w := by kernel_rfl
theorem he_table (args : Array Value) (w : World) : (callFunc 112 args).run Tryz.prog w = .ok (.enter 112 args) w := by kernel_rfl
theorem he_tally (args : Array Value) (w : World) : (callFunc 113 args).run Tryz.prog w = .ok (.enter 113 args) w := by kernel_rfl
theorem wl_tyw (r : Nat) : wl (upw wz 0 r) = wl (tyw (r : Nat)) := wl_congr fun j hj => by
  unfold upw tyw wz
  by_cases e : j = 0
  · subst e; simp
  · rw [if_neg e, if_neg e]

def ptr (b : Nat) : Array Value := #[.pointer (some ⟨b, 0, none⟩)]
theorem obDo_is {kind o k x : Int} {c : Nat → Nat} (hO : isOb kind c) (hR : Rt o k x) (w : World) :
    Calls Tryz.prog 66 #[.int .i64 kind, .agg (wl c).toArray, .agg #[.int .i64 o, .int .i64 k, .int .i64 x]] w (DidD w (odo kind c o k x).1 (odo kind c o k x).2.1 (odo kind c o k x).2.2) := by
  obtain ⟨b1, b6⟩ := isOb_kind hO
  by_cases e5 : kind = 5
  · subst e5
    obtain ⟨h1, h2, h3⟩ : WTab c := by
      rcases hO with ⟨hk, _⟩ | ⟨hk, _⟩ | ⟨_, h⟩ | ⟨hk, _⟩ <;> first | exact h | omega
    have f := tdo_facts h3 hR.w1 hR.w6 hR.k0 hR.k1 hR.v0 hR.v1
    have e : odo 5 c o k x = (tw (tdo (tbl c) o k x).1, (tdo (tbl c) o k x).2) := by rw [odo, if_pos rfl]
    rw [e]
    refine obDo_any (cp := fun _ _ _ _ => #[]) he_table hR hO (fun u m b1 b2 b3 b4 D => D.mp.look 5 (by decide) (by decide) (deeds_5 b1 b2 b3 b4)) (fun u m b1 b2 b3 b4 D => ?_) w
    exact withTable_is (u := (tdo (tbl c) o k x).1) (cc := (tdo (tbl c) o k x).2.1) (y := (tdo (tbl c) o k x).2.2) (fun j hj => by have := upC_all h1 (j := j) (by omega) (by omega); omega) rfl (fun i hi => by have := f.rt.keys i hi; omega) (fun i hi => f.rt.vals i hi) u
  by_cases e6 : kind = 6
  · subst e6
    have h1 : isTb c = true := by
      rcases hO with ⟨hk, _⟩ | ⟨hk, _⟩ | ⟨hk, _⟩ | ⟨_, h⟩ <;> first | exact h | omega
    have hc : 0 ≤ ((c 0 : Nat) : Int) ∧ ((c 0 : Nat) : Int) ≤ 4294967295 := by
      unfold isTb at h1
      simp only [Bool.and_eq_true] at h1
      have := upC_all h1.1 (j := 0) (by omega) (by omega)
      omega
    have f := ado_facts hc.1 hc.2 hR.w1 hR.w6 hR.v0 hR.v1
    have e : odo 6 c o k x = (tyw (ado (c 0) o x).1, (ado (c 0) o x).2) := by rw [odo, if_neg (by decide), if_pos rfl]
    rw [e]
    refine obDo_any (cp := fun _ _ _ _ => #[]) he_tally hR hO (fun u m b1 b2 b3 b4 D => D.mp.look 6 (by decide) (by decide) (deeds_6 b1 b2 b3 b4)) (fun u m b1 b2 b3 b4 D => ?_) w
    have hr : (((ado (c 0) o x).1.toNat : Nat) : Int) = (ado (c 0) o x).1 := by have := f.rt.1; omega
    have := withTally_is (c := c) (m := c 0) (r := (ado (c 0) o x).1.toNat) (o := o) (k := k) (x := x) (cc := (ado (c 0) o x).2.1) (y := (ado (c 0) o x).2.2) rfl (by omega) hR.v0 hR.v1 (by have := f.rt.2; omega) (by rw [hr]) u
    rw [wl_tyw, hr] at this
    exact this
  have h4 : kind ≤ 4 := by omega
  obtain ⟨hb, hp⟩ := isOb_list h4 hO
  have hw := isLb_w hb
  have h6 : (lst c).length ≤ 6 := by rw [lst_length]; exact hw.len
  obtain ⟨f, g⟩ := ldo_facts (k := k) b1 h4 h6 (lst_val hw) hp hR.w1 hR.w6 hR.v0 hR.v1
  have e : odo kind c o k x = (lw (ldo kind (lst c) o x).1, (ldo kind (lst c) o x).2) := by rw [odo, if_neg e5, if_neg e6]
  rw [e]
  have : kind = 1 ∨ kind = 2 ∨ kind = 3 ∨ kind = 4 := by omega
  rcases this with rfl | rfl | rfl | rfl
  · exact obDo_any (cp := fun b1 _ _ _ => ptr b1) he_list hR hO (fun u m b1 b2 b3 b4 D => D.mp.look 1 (by decide) (by decide) (deeds_1 b1 b2 b3 b4)) (fun u m b1 b2 b3 b4 D => wlist_q hw (fun B W v h => qDo_eq k h (by omega) rfl) f.len f.val u D.q) w
  · exact obDo_any (cp := fun _ b2 _ _ => ptr b2) he_list hR hO (fun u m b1 b2 b3 b4 D => D.mp.look 2 (by decide) (by decide) (deeds_2 b1 b2 b3 b4)) (fun u m b1 b2 b3 b4 D => wlist_s hw (fun B W v h => sDo_eq k h (by omega) rfl) f.len f.val u D.s) w
  · exact obDo_any (cp := fun _ _ b3 _ => ptr b3) he_list hR hO (fun u m b1 b2 b3 b4 D => D.mp.look 3 (by decide) (by decide) (deeds_3 b1 b2 b3 b4)) (fun u m b1 b2 b3 b4 D => wlist_d hw (fun B W v h => dDo_eq k h (by omega) rfl) f.len f.val u D.d) w
  · exact obDo_any (cp := fun _ _ _ b4 => ptr b4) he_list hR hO (fun u m b1 b2 b3 b4 D => D.mp.look 4 (by decide) (by decide) (deeds_4 b1 b2 b3 b4)) (fun u m b1 b2 b3 b4 D => wlist_h hw (fun B W v h => hDo_eq k h (by omega) rfl) f.len f.val u D.h) w
theorem obDo_no {kind o k x : Int} {c : Nat → Nat} (h : ¬ (Rt o k x ∧ isOb kind c)) (w : World) :
    Calls Tryz.prog 66 #[.int .i64 kind, .agg (wl c).toArray, .agg #[.int .i64 o, .int .i64 k, .int .i64 x]] w (Refd w) := by
  by_cases hR : Rt o k x
  · exact obDo_isnt hR (fun hO => h ⟨hR, hO⟩) w
  · exact obDo_wrong hR w
end Go.Proofs.YteogbpaaacmllaaGreatDoor.Tab
namespace Go.Proofs.YteogbpaaacmllaaGreatDoor.Tab
set_option maxRecDepth 20000
open Go.RowKit
set_option linter.unusedVariables false

theorem Bo.cells0 {w : World} {b : Nat} {cs : List Value} (h : Bo w b cs) : ∀ j v, cs[j]? = some v → w.cell? ⟨b, 0 + j, none⟩ = some v := fun j v hv => by rw [Nat.zero_add]; exact h.cell j v hv
theorem wo_hi {r d : Nat → Nat} {j : Nat} (h : 18 ≤ j) : wo r d j = r j := by unfold wo; rw [if_neg (by omega)]
theorem upw_ne {f : Nat → Nat} {j k x : Nat} (h : k ≠ j) : upw f j x k = f k := by unfold upw; rw [if_neg h]
theorem upw_eq {f : Nat → Nat} {j x : Nat} : upw f j x j = x := by unfold upw; rw [if_pos rfl]
theorem rdo_row {r : Nat → Nat} {t : Nat} {o k x : Int} (ht : t < 4) {d : Nat → Nat} {cc y : Nat} (h : odo (r 0 : Nat) (ob r) o k x = (d, ((cc : Nat) : Int), ((y : Nat) : Int))) :
    rl (upw (upw (upw (upw (wo r d) 28 (r 28 + 1)) (18 + t) (ansN cc y)) (22 + t) (r 28 + 1)) 26 (r 26 ^^^ 2 ^ t)) = rl (rdo r t o k x) := rl_congr fun j hj => by
  unfold rdo upw wo
  rw [h]
  by_cases h26 : j = 26
  · rw [if_pos h26, if_pos h26]
  rw [if_neg h26, if_neg h26]
  by_cases h22 : j = 22 + t
  · rw [if_pos h22, if_pos (Or.inr h22)]
  rw [if_neg h22]
  by_cases h28 : j = 28
  · rw [if_pos (Or.inl h28), if_neg (by omega), if_pos h28]
  rw [if_neg (by omega : ¬ (j = 28 ∨ j = 22 + t))]
  by_cases h18 : j = 18 + t
  · rw [if_pos h18, if_pos h18]; rfl
  rw [if_neg h18, if_neg h18, if_neg h28]
set_option maxHeartbeats 2000000 in
theorem recDone_range (r : Nat → Nat) {t o k x : Int} (h : t < 0 ∨ 4 ≤ t) (w : World) :
    Calls Tryz.prog 42 #[.agg (rl r).toArray, .int .i64 t, .agg #[.int .i64 o, .int .i64 k, .int .i64 x]] w (fun e w' => e = .returned (.tuple #[.agg (rl wz).toArray, .iface 28 (.int .i64 2)]) ∧ Below w.heap.size w w') := by
  have IT : Hid (∀ w : World, _) := isThread_no h
  clear h
  have hM : Hid _ := ((((Ms.nil w).born (rl r) 24 (b := w.heap.size) rfl).born [.int .i64 o, .int .i64 k, .int .i64 x] 44 (b := w.heap.size + 1) (by simp)).bornR rl_zero.symm 24 (b := w.heap.size + 2) (by simp))
  go_enter Tryz.func42, Tryz.ntmps42
  go_wp2_with fail
  refine (IT.out _).mono ?_
  rintro e ux ⟨rfl, hw⟩
  rw [hw]; clear hw ux
  go_wp2_with (first
    | (refine sR rfl (hM.out.at 0 rfl) rfl ((rwR wz).len (rwR wz)) (rwR wz) ?_
       replace hM := hid (hM.out.put 0 rfl (rl wz) ((rwR wz).len (rwR wz)))
       generalize World.setCells _ _ _ _ = W at hM ⊢))
  exact bodyPost_ret (res1s Tryz.results42 (hM.out.at 0 rfl) (rwR wz) (.iface 28 (.int .i64 2))) rfl ⟨rfl, hM.out.below⟩
set_option maxHeartbeats 2000000 in
theorem recDone_not {r : Nat → Nat} (U : ∀ j, j < 32 → r j < 18446744073709551616) {t : Nat} (ht : t < 4) {o k x : Int} (hr : ¬ isRec r) (w : World) :
    Calls Tryz.prog 42 #[.agg (rl r).toArray, .int .i64 (t : Nat), .agg #[.int .i64 o, .int .i64 k, .int .i64 x]] w (fun e w' => e = .returned (.tuple #[.agg (rl wz).toArray, .iface 28 (.int .i64 1)]) ∧ Below w.heap.size w w') := by
  have IT : Hid (∀ w : World, _) := isThread_yes (t := (t : Nat)) (by omega) (by omega)
  have RI : Hid (∀ w : World, _) := recRight_is U (v := false) ⟨fun h => absurd h (by decide), fun h => absurd h hr⟩
  clear hr U ht
  have hM : Hid _ := ((((Ms.nil w).born (rl r) 24 (b := w.heap.size) rfl).born [.int .i64 o, .int .i64 k, .int .i64 x] 44 (b := w.heap.size + 1) (by simp)).bornR rl_zero.symm 24 (b := w.heap.size + 2) (by simp))
  have c1 := hM.out.cell 1 0 rfl rfl
  have c2 := hM.out.cell 1 1 rfl rfl
  have c3 := hM.out.cell 1 2 rfl rfl
  go_enter Tryz.func42, Tryz.ntmps42
  go_wp2_with fail
  refine (IT.out _).mono ?_
  rintro e ux ⟨rfl, hw⟩
  rw [hw]; clear hw ux
  go_wp2_with (first
    | (refine lR rfl (hM.out.at 2 rfl) rfl (rwR r) ?_))
  clear c1 c2 c3
  generalize World.alloc _ _ = W at hM ⊢
  generalize hsz : w.heap.size = n at hM ⊢
  clear hsz
  refine (RI.out _).mono ?_
  rintro e W ⟨rfl, hb⟩
  replace hM := hid (hM.out.later hb)
  clear hb
  go_wp2_with (first
    | (refine sR rfl (hM.out.at 0 rfl) rfl ((rwR wz).len (rwR wz)) (rwR wz) ?_
       replace hM := hid (hM.out.put 0 rfl (rl wz) ((rwR wz).len (rwR wz)))
       generalize World.setCells _ _ _ _ = W at hM ⊢))
  exact bodyPost_ret (res1s Tryz.results42 (hM.out.at 0 rfl) (rwR wz) (.iface 28 (.int .i64 1))) rfl ⟨rfl, hM.out.below⟩
set_option maxHeartbeats 8000000 in
theorem recDone_wrong {r : Nat → Nat} (U : ∀ j, j < 32 → r j < 18446744073709551616) {t : Nat} (ht : t < 4) {o k x : Int} (hr : isRec r) (hR : ¬ Rt o k x) (w : World) :
    Calls Tryz.prog 42 #[.agg (rl r).toArray, .int .i64 (t : Nat), .agg #[.int .i64 o, .int .i64 k, .int .i64 x]] w (fun e w' => e = .returned (.tuple #[.agg (rl wz).toArray, .iface 28 (.int .i64 1)]) ∧ Below w.heap.size w w') := by
  have IT : Hid (∀ w : World, _) := isThread_yes (t := (t : Nat)) (by omega) (by omega)
  have RI : Hid (∀ w : World, _) := recRight_is U (v := true) ⟨fun _ => hr, fun _ => rfl⟩
  obtain ⟨q, hq⟩ : ∃ q, q = min (r 0) 4294967296 := ⟨_, rfl⟩
  have KI : Hid (∀ w : World, _) := recKind_is r hq
  have eq : q = r 0 := by have h1 := hr.ob1.2; omega
  have OJ : Hid (∀ w : World, _) := recObject_is r
  rw [eq] at KI
  clear hq eq
  have DD : Hid (∀ w, _) := fun w => obDo_no (kind := (r 0 : Nat)) (c := ob r) (fun h => hR h.1) w
  unfold Refd at DD
  clear hr hR U ht
  have hM : Hid _ := ((((Ms.nil w).born (rl r) 24 (b := w.heap.size) rfl).born [.int .i64 o, .int .i64 k, .int .i64 x] 44 (b := w.heap.size + 1) (by simp)).bornR rl_zero.symm 24 (b := w.heap.size + 2) (by simp))
  have c1 := hM.out.cell 1 0 rfl rfl
  have c2 := hM.out.cell 1 1 rfl rfl
  have c3 := hM.out.cell 1 2 rfl rfl
  go_enter Tryz.func42, Tryz.ntmps42
  go_wp2_with fail
  refine (IT.out _).mono ?_
  rintro e ux ⟨rfl, hw⟩
  rw [hw]; clear hw ux
  go_wp2_with (first
    | (refine lR rfl (hM.out.at 2 rfl) rfl (rwR r) ?_))
  clear c1 c2 c3
  generalize World.alloc _ _ = W at hM ⊢
  generalize hsz : w.heap.size = n at hM ⊢
  clear hsz
  refine (RI.out _).mono ?_
  rintro e W ⟨rfl, hb⟩
  replace hM := hid (hM.out.later hb)
  clear hb
  go_wp2_with fail
  go_cut [8, 9, 10] (fun s8 s9 s10 wx => ∃ bz8 bz9 : Nat, s8 = .pointer (some ⟨bz8, 0, none⟩) ∧ s9 = .pointer (some ⟨bz9, 0, none⟩) ∧ s10 = .iface 28 (.int .i64 1) ∧ Hid (Ms n w wx [(n, (rl r)), ((n + 2), (rl wz)), (bz8, (wl wz)), (bz9, [.int .i64 0, .int .i64 0])] []))
  case first =>
    replace hM := hid (hM.out.drew)
    refine wp_region_held_drew (S := fun w' => Bo w' n (rl r) ∧ Bo w' (n + 1) [.int .i64 o, .int .i64 k, .int .i64 x]) (by kernel_rfl) ⟨hM.out.at 2 rfl, hM.out.at 1 rfl⟩ (fun hH => ?_)
    generalize World.drew _ = W at hM hH  ⊢
    refine tkR 0 rfl hH (fun _ h => h.1) (rwR r) ?_
    simp only [Act.put, p1, p2, p3]
    refine tkR 2 rfl hH (fun _ h => h.1) (rwR r) ?_
    simp only [Act.put, p1, p2, p3]
    refine tkR 4 rfl hH (fun _ h => h.2) (rwO o k x) ?_
    simp only [Act.put, p1, p2, p3]
    refine rdn [1, 10, 11] ?_
    refine rdc rfl (fun K hK => ?_) ?_
    · go_simp
      refine (KI.out _).mono ?_
      rintro e W ⟨rfl, hb⟩
      replace hM := hid (hM.out.later hb)
      clear hb
      go_wp2_with fail
      refine hK.out _ _ ⟨hM.out.at 2 rfl, hM.out.at 1 rfl⟩ (fun hH => ?_)
      clear hK K
      try simp only [Act.put, p1, p2, p3]
      refine rdn [3, 10, 11] ?_
      refine rdc rfl (fun K hK => ?_) ?_
      · go_simp
        refine (OJ.out _).mono ?_
        rintro e W ⟨rfl, hb⟩
        replace hM := hid (hM.out.later hb)
        clear hb
        go_wp2_with fail
        refine hK.out _ _ ⟨hM.out.at 2 rfl, hM.out.at 1 rfl⟩ (fun hH => ?_)
        clear hK K
        try simp only [Act.put, p1, p2, p3]
        refine rdn [5, 10, 11] ?_
        refine rdc rfl (fun K hK => ?_) ?_
        · go_simp
          refine (DD.out _).mono ?_
          rintro e W ⟨rfl, hb⟩
          replace hM := hid (hM.out.later hb)
          clear hb
          go_wp2_with fail
          refine hK.out _ _ ⟨hM.out.at 2 rfl, hM.out.at 1 rfl⟩ (fun hH => ?_)
          clear hK K
          try simp only [Act.put, p1, p2, p3]
          refine tk 6 rfl hH ?_
          simp only [Act.put, p1, p2, p3]
          refine tk 7 rfl hH ?_
          simp only [Act.put, p1, p2, p3]
          refine tk 8 rfl hH ?_
          simp only [Act.put, p1, p2, p3]
          refine tk 9 rfl hH ?_
          simp only [Act.put, p1, p2, p3]
          refine rdn [10, 11] ?_
          refine rdc rfl (fun K hK => ?_) ?_
          · go_simp
            replace hM := hid (hM.out.bornR wz_all.symm 119 rfl)
            refine hK.out _ _ ⟨hM.out.at 3 rfl, hM.out.at 2 rfl⟩ (fun hH => ?_)
            clear hK K
            generalize W.heap.size = bq4 at hM hH ⊢
            generalize World.alloc _ _ = W at hM hH  ⊢
            try simp only [Act.put, p1, p2, p3]
            refine rd1 11 rfl (fun K hK => ?_)
            go_simp
            replace hM := hid (hM.out.born [.int .i64 0, .int .i64 0] 58 rfl)
            refine hK.out _ _ ⟨hM.out.at 4 rfl, hM.out.at 3 rfl⟩ (fun hH => ?_)
            clear hK K
            generalize W.heap.size = bq5 at hM hH ⊢
            generalize World.alloc _ _ = W at hM hH  ⊢
            try simp only [Act.put, p1, p2, p3]
            refine rd1 12 rfl (fun K hK => ?_)
            refine stR rfl (hM.out.at 1 rfl) ((rwC wz).len (rwC wz)) (rwC wz) ?_
            simp only [Act.put]
            replace hM := hid (hM.out.put 1 rfl (wl wz) ((rwC wz).len (rwC wz)))
            refine hK.out _ _ ⟨hM.out.at 4 rfl, hM.out.at 3 rfl⟩ (fun hH => ?_)
            clear hK K
            generalize World.setCells _ _ _ _ = W at hM hH ⊢
            try simp only [Act.put, p1, p2, p3]
            refine rd1 13 rfl (fun K hK => ?_)
            refine stR rfl (hM.out.at 0 rfl) ((rwA 0 0).len (rwA 0 0)) (rwA 0 0) ?_
            simp only [Act.put]
            replace hM := hid (hM.out.put 0 rfl [.int .i64 0, .int .i64 0] ((rwA 0 0).len (rwA 0 0)))
            refine hK.out _ _ ⟨hM.out.at 4 rfl, hM.out.at 3 rfl⟩ (fun hH => ?_)
            clear hK K
            generalize World.setCells _ _ _ _ = W at hM hH ⊢
            try simp only [Act.put, p1, p2, p3]
            refine tk 14 rfl hH ?_
            simp only [Act.put, p1, p2, p3]
            refine wpAnyH_done (by kernel_rfl) ?_ _
            go_wp2_with fail
            go_meet
            case rel => exact ⟨bq4, bq5, rfl, rfl, rfl, (hM.out.pick [4, 2, 1, 0]).pickL []⟩
          refine rdc rfl (fun K hK => ?_) AllReadyH.nil
          go_simp
          replace hM := hid (hM.out.born [.int .i64 0, .int .i64 0] 58 rfl)
          refine hK.out _ _ ⟨hM.out.at 3 rfl, hM.out.at 2 rfl⟩ (fun hH => ?_)
          clear hK K
          generalize W.heap.size = bq4 at hM hH ⊢
          generalize World.alloc _ _ = W at hM hH  ⊢
          try simp only [Act.put, p1, p2, p3]
          refine rd1 10 rfl (fun K hK => ?_)
          go_simp
          replace hM := hid (hM.out.bornR wz_all.symm 119 rfl)
          refine hK.out _ _ ⟨hM.out.at 4 rfl, hM.out.at 3 rfl⟩ (fun hH => ?_)
          clear hK K
          generalize W.heap.size = bq5 at hM hH ⊢
          generalize World.alloc _ _ = W at hM hH  ⊢
          try simp only [Act.put, p1, p2, p3]
          refine rd1 12 rfl (fun K hK => ?_)
          refine stR rfl (hM.out.at 0 rfl) ((rwC wz).len (rwC wz)) (rwC wz) ?_
          simp only [Act.put]
          replace hM := hid (hM.out.put 0 rfl (wl wz) ((rwC wz).len (rwC wz)))
          refine hK.out _ _ ⟨hM.out.at 4 rfl, hM.out.at 3 rfl⟩ (fun hH => ?_)
          clear hK K
          generalize World.setCells _ _ _ _ = W at hM hH ⊢
          try simp only [Act.put, p1, p2, p3]
          refine rd1 13 rfl (fun K hK => ?_)
          refine stR rfl (hM.out.at 1 rfl) ((rwA 0 0).len (rwA 0 0)) (rwA 0 0) ?_
          simp only [Act.put]
          replace hM := hid (hM.out.put 1 rfl [.int .i64 0, .int .i64 0] ((rwA 0 0).len (rwA 0 0)))
          refine hK.out _ _ ⟨hM.out.at 4 rfl, hM.out.at 3 rfl⟩ (fun hH => ?_)
          clear hK K
          generalize World.setCells _ _ _ _ = W at hM hH ⊢
          try simp only [Act.put, p1, p2, p3]
          refine tk 14 rfl hH ?_
          simp only [Act.put, p1, p2, p3]
          refine wpAnyH_done (by kernel_rfl) ?_ _
          go_wp2_with fail
          go_meet
          case rel => exact ⟨bq5, bq4, rfl, rfl, rfl, (hM.out.pick [4, 2, 0, 1]).pickL []⟩
        refine rdc rfl (fun K hK => ?_) ?_
        · go_simp
          replace hM := hid (hM.out.bornR wz_all.symm 119 rfl)
          refine hK.out _ _ ⟨hM.out.at 3 rfl, hM.out.at 2 rfl⟩ (fun hH => ?_)
          clear hK K
          generalize W.heap.size = bq4 at hM hH ⊢
          generalize World.alloc _ _ = W at hM hH  ⊢
          try simp only [Act.put, p1, p2, p3]
          refine rdn [5, 11] ?_
          refine rdc rfl (fun K hK => ?_) ?_
          · go_simp
            refine (DD.out _).mono ?_
            rintro e W ⟨rfl, hb⟩
            replace hM := hid (hM.out.later hb)
            clear hb
            go_wp2_with fail
            refine hK.out _ _ ⟨hM.out.at 3 rfl, hM.out.at 2 rfl⟩ (fun hH => ?_)
            clear hK K
            try simp only [Act.put, p1, p2, p3]
            refine tk 6 rfl hH ?_
            simp only [Act.put, p1, p2, p3]
            refine tk 7 rfl hH ?_
            simp only [Act.put, p1, p2, p3]
            refine tk 8 rfl hH ?_
            simp only [Act.put, p1, p2, p3]
            refine tk 9 rfl hH ?_
            simp only [Act.put, p1, p2, p3]
            refine rd1 11 rfl (fun K hK => ?_)
            go_simp
            replace hM := hid (hM.out.born [.int .i64 0, .int .i64 0] 58 rfl)
            refine hK.out _ _ ⟨hM.out.at 4 rfl, hM.out.at 3 rfl⟩ (fun hH => ?_)
            clear hK K
            generalize W.heap.size = bq5 at hM hH ⊢
            generalize World.alloc _ _ = W at hM hH  ⊢
            try simp only [Act.put, p1, p2, p3]
            refine rd1 12 rfl (fun K hK => ?_)
            refine stR rfl (hM.out.at 1 rfl) ((rwC wz).len (rwC wz)) (rwC wz) ?_
            simp only [Act.put]
            replace hM := hid (hM.out.put 1 rfl (wl wz) ((rwC wz).len (rwC wz)))
            refine hK.out _ _ ⟨hM.out.at 4 rfl, hM.out.at 3 rfl⟩ (fun hH => ?_)
            clear hK K
            generalize World.setCells _ _ _ _ = W at hM hH ⊢
            try simp only [Act.put, p1, p2, p3]
            refine rd1 13 rfl (fun K hK => ?_)
            refine stR rfl (hM.out.at 0 rfl) ((rwA 0 0).len (rwA 0 0)) (rwA 0 0) ?_
            simp only [Act.put]
            replace hM := hid (hM.out.put 0 rfl [.int .i64 0, .int .i64 0] ((rwA 0 0).len (rwA 0 0)))
            refine hK.out _ _ ⟨hM.out.at 4 rfl, hM.out.at 3 rfl⟩ (fun hH => ?_)
            clear hK K
            generalize World.setCells _ _ _ _ = W at hM hH ⊢
            try simp only [Act.put, p1, p2, p3]
            refine tk 14 rfl hH ?_
            simp only [Act.put, p1, p2, p3]
            refine wpAnyH_done (by kernel_rfl) ?_ _
            go_wp2_with fail
            go_meet
            case rel => exact ⟨bq4, bq5, rfl, rfl, rfl, (hM.out.pick [4, 2, 1, 0]).pickL []⟩
          refine rdc rfl (fun K hK => ?_) AllReadyH.nil
          go_simp
          replace hM := hid (hM.out.born [.int .i64 0, .int .i64 0] 58 rfl)
          refine hK.out _ _ ⟨hM.out.at 4 rfl, hM.out.at 3 rfl⟩ (fun hH => ?_)
          clear hK K
          generalize W.heap.size = bq5 at hM hH ⊢
          generalize World.alloc _ _ = W at hM hH  ⊢
          try simp only [Act.put, p1, p2, p3]
          refine rd1 5 rfl (fun K hK => ?_)
          go_simp
          refine (DD.out _).mono ?_
          rintro e W ⟨rfl, hb⟩
          replace hM := hid (hM.out.later hb)
          clear hb
          go_wp2_with fail
          refine hK.out _ _ ⟨hM.out.at 4 rfl, hM.out.at 3 rfl⟩ (fun hH => ?_)
          clear hK K
          try simp only [Act.put, p1, p2, p3]
          refine tk 6 rfl hH ?_
          simp only [Act.put, p1, p2, p3]
          refine tk 7 rfl hH ?_
          simp only [Act.put, p1, p2, p3]
          refine tk 8 rfl hH ?_
          simp only [Act.put, p1, p2, p3]
          refine tk 9 rfl hH ?_
          simp only [Act.put, p1, p2, p3]
          refine rd1 12 rfl (fun K hK => ?_)
          refine stR rfl (hM.out.at 1 rfl) ((rwC wz).len (rwC wz)) (rwC wz) ?_
          simp only [Act.put]
          replace hM := hid (hM.out.put 1 rfl (wl wz) ((rwC wz).len (rwC wz)))
          refine hK.out _ _ ⟨hM.out.at 4 rfl, hM.out.at 3 rfl⟩ (fun hH => ?_)
          clear hK K
          generalize World.setCells _ _ _ _ = W at hM hH ⊢
          try simp only [Act.put, p1, p2, p3]
          refine rd1 13 rfl (fun K hK => ?_)
          refine stR rfl (hM.out.at 0 rfl) ((rwA 0 0).len (rwA 0 0)) (rwA 0 0) ?_
          simp only [Act.put]
          replace hM := hid (hM.out.put 0 rfl [.int .i64 0, .int .i64 0] ((rwA 0 0).len (rwA 0 0)))
          refine hK.out _ _ ⟨hM.out.at 4 rfl, hM.out.at 3 rfl⟩ (fun hH => ?_)
          clear hK K
          generalize World.setCells _ _ _ _ = W at hM hH ⊢
          try simp only [Act.put, p1, p2, p3]
          refine tk 14 rfl hH ?_
          simp only [Act.put, p1, p2, p3]
          refine wpAnyH_done (by kernel_rfl) ?_ _
          go_wp2_with fail
          go_meet
          case rel => exact ⟨bq4, bq5, rfl, rfl, rfl, (hM.out.pick [4, 2, 1, 0]).pickL []⟩
        refine rdc rfl (fun K hK => ?_) AllReadyH.nil
        go_simp
        replace hM := hid (hM.out.born [.int .i64 0, .int .i64 0] 58 rfl)
        refine hK.out _ _ ⟨hM.out.at 3 rfl, hM.out.at 2 rfl⟩ (fun hH => ?_)
        clear hK K
        generalize W.heap.size = bq4 at hM hH ⊢
        generalize World.alloc _ _ = W at hM hH  ⊢
        try simp only [Act.put, p1, p2, p3]
        refine rdn [5, 10] ?_
        refine rdc rfl (fun K hK => ?_) ?_
        · go_simp
          refine (DD.out _).mono ?_
          rintro e W ⟨rfl, hb⟩
          replace hM := hid (hM.out.later hb)
          clear hb
          go_wp2_with fail
          refine hK.out _ _ ⟨hM.out.at 3 rfl, hM.out.at 2 rfl⟩ (fun hH => ?_)
          clear hK K
          try simp only [Act.put, p1, p2, p3]
          refine tk 6 rfl hH ?_
          simp only [Act.put, p1, p2, p3]
          refine tk 7 rfl hH ?_
          simp only [Act.put, p1, p2, p3]
          refine tk 8 rfl hH ?_
          simp only [Act.put, p1, p2, p3]
          refine tk 9 rfl hH ?_
          simp only [Act.put, p1, p2, p3]
          refine rd1 10 rfl (fun K hK => ?_)
          go_simp
          replace hM := hid (hM.out.bornR wz_all.symm 119 rfl)
          refine hK.out _ _ ⟨hM.out.at 4 rfl, hM.out.at 3 rfl⟩ (fun hH => ?_)
          clear hK K
          generalize W.heap.size = bq5 at hM hH ⊢
          generalize World.alloc _ _ = W at hM hH  ⊢
          try simp only [Act.put, p1, p2, p3]
          refine rd1 12 rfl (fun K hK => ?_)
          refine stR rfl (hM.out.at 0 rfl) ((rwC wz).len (rwC wz)) (rwC wz) ?_
          simp only [Act.put]
          replace hM := hid (hM.out.put 0 rfl (wl wz) ((rwC wz).len (rwC wz)))
          refine hK.out _ _ ⟨hM.out.at 4 rfl, hM.out.at 3 rfl⟩ (fun hH => ?_)
          clear hK K
          generalize World.setCells _ _ _ _ = W at hM hH ⊢
          try simp only [Act.put, p1, p2, p3]
          refine rd1 13 rfl (fun K hK => ?_)
          refine stR rfl (hM.out.at 1 rfl) ((rwA 0 0).len (rwA 0 0)) (rwA 0 0) ?_
          simp only [Act.put]
          replace hM := hid (hM.out.put 1 rfl [.int .i64 0, .int .i64 0] ((rwA 0 0).len (rwA 0 0)))
          refine hK.out _ _ ⟨hM.out.at 4 rfl, hM.out.at 3 rfl⟩ (fun hH => ?_)
          clear hK K
          generalize World.setCells _ _ _ _ = W at hM hH ⊢
          try simp only [Act.put, p1, p2, p3]
          refine tk 14 rfl hH ?_
          simp only [Act.put, p1, p2, p3]
          refine wpAnyH_done (by kernel_rfl) ?_ _
          go_wp2_with fail
          go_meet
          case rel => exact ⟨bq5, bq4, rfl, rfl, rfl, (hM.out.pick [4, 2, 0, 1]).pickL []⟩
        refine rdc rfl (fun K hK => ?_) AllReadyH.nil
        go_simp
        replace hM := hid (hM.out.bornR wz_all.symm 119 rfl)
        refine hK.out _ _ ⟨hM.out.at 4 rfl, hM.out.at 3 rfl⟩ (fun hH => ?_)
        clear hK K
        generalize W.heap.size = bq5 at hM hH ⊢
        generalize World.alloc _ _ = W at hM hH  ⊢
        try simp only [Act.put, p1, p2, p3]
        refine rd1 5 rfl (fun K hK => ?_)
        go_simp
        refine (DD.out _).mono ?_
        rintro e W ⟨rfl, hb⟩
        replace hM := hid (hM.out.later hb)
        clear hb
        go_wp2_with fail
        refine hK.out _ _ ⟨hM.out.at 4 rfl, hM.out.at 3 rfl⟩ (fun hH => ?_)
        clear hK K
        try simp only [Act.put, p1, p2, p3]
        refine tk 6 rfl hH ?_
        simp only [Act.put, p1, p2, p3]
        refine tk 7 rfl hH ?_
        simp only [Act.put, p1, p2, p3]
        refine tk 8 rfl hH ?_
        simp only [Act.put, p1, p2, p3]
        refine tk 9 rfl hH ?_
        simp only [Act.put, p1, p2, p3]
        refine rd1 12 rfl (fun K hK => ?_)
        refine stR rfl (hM.out.at 0 rfl) ((rwC wz).len (rwC wz)) (rwC wz) ?_
        simp only [Act.put]
        replace hM := hid (hM.out.put 0 rfl (wl wz) ((rwC wz).len (rwC wz)))
        refine hK.out _ _ ⟨hM.out.at 4 rfl, hM.out.at 3 rfl⟩ (fun hH => ?_)
        clear hK K
        generalize World.setCells _ _ _ _ = W at hM hH ⊢
        try simp only [Act.put, p1, p2, p3]
        refine rd1 13 rfl (fun K hK => ?_)
        refine stR rfl (hM.out.at 1 rfl) ((rwA 0 0).len (rwA 0 0)) (rwA 0 0) ?_
        simp only [Act.put]
        replace hM := hid (hM.out.put 1 rfl [.int .i64 0, .int .i64 0] ((rwA 0 0).len (rwA 0 0)))
        refine hK.out _ _ ⟨hM.out.at 4 rfl, hM.out.at 3 rfl⟩ (fun hH => ?_)
        clear hK K
        generalize World.setCells _ _ _ _ = W at hM hH ⊢
        try simp only [Act.put, p1, p2, p3]
        refine tk 14 rfl hH ?_
        simp only [Act.put, p1, p2, p3]
        refine wpAnyH_done (by kernel_rfl) ?_ _
        go_wp2_with fail
        go_meet
        case rel => exact ⟨bq5, bq4, rfl, rfl, rfl, (hM.out.pick [4, 2, 0, 1]).pickL []⟩
      refine rdc rfl (fun K hK => ?_) ?_
      · go_simp
        replace hM := hid (hM.out.bornR wz_all.symm 119 rfl)
        refine hK.out _ _ ⟨hM.out.at 3 rfl, hM.out.at 2 rfl⟩ (fun hH => ?_)
        clear hK K
        generalize W.heap.size = bq4 at hM hH ⊢
        generalize World.alloc _ _ = W at hM hH  ⊢
        try simp only [Act.put, p1, p2, p3]
        refine rdn [3, 11] ?_
        refine rdc rfl (fun K hK => ?_) ?_
        · go_simp
          refine (OJ.out _).mono ?_
          rintro e W ⟨rfl, hb⟩
          replace hM := hid (hM.out.later hb)
          clear hb
          go_wp2_with fail
          refine hK.out _ _ ⟨hM.out.at 3 rfl, hM.out.at 2 rfl⟩ (fun hH => ?_)
          clear hK K
          try simp only [Act.put, p1, p2, p3]
          refine rdn [5, 11] ?_
          refine rdc rfl (fun K hK => ?_) ?_
          · go_simp
            refine (DD.out _).mono ?_
            rintro e W ⟨rfl, hb⟩
            replace hM := hid (hM.out.later hb)
            clear hb
            go_wp2_with fail
            refine hK.out _ _ ⟨hM.out.at 3 rfl, hM.out.at 2 rfl⟩ (fun hH => ?_)
            clear hK K
            try simp only [Act.put, p1, p2, p3]
            refine tk 6 rfl hH ?_
            simp only [Act.put, p1, p2, p3]
            refine tk 7 rfl hH ?_
            simp only [Act.put, p1, p2, p3]
            refine tk 8 rfl hH ?_
            simp only [Act.put, p1, p2, p3]
            refine tk 9 rfl hH ?_
            simp only [Act.put, p1, p2, p3]
            refine rd1 11 rfl (fun K hK => ?_)
            go_simp
            replace hM := hid (hM.out.born [.int .i64 0, .int .i64 0] 58 rfl)
            refine hK.out _ _ ⟨hM.out.at 4 rfl, hM.out.at 3 rfl⟩ (fun hH => ?_)
            clear hK K
            generalize W.heap.size = bq5 at hM hH ⊢
            generalize World.alloc _ _ = W at hM hH  ⊢
            try simp only [Act.put, p1, p2, p3]
            refine rd1 12 rfl (fun K hK => ?_)
            refine stR rfl (hM.out.at 1 rfl) ((rwC wz).len (rwC wz)) (rwC wz) ?_
            simp only [Act.put]
            replace hM := hid (hM.out.put 1 rfl (wl wz) ((rwC wz).len (rwC wz)))
            refine hK.out _ _ ⟨hM.out.at 4 rfl, hM.out.at 3 rfl⟩ (fun hH => ?_)
            clear hK K
            generalize World.setCells _ _ _ _ = W at hM hH ⊢
            try simp only [Act.put, p1, p2, p3]
            refine rd1 13 rfl (fun K hK => ?_)
            refine stR rfl (hM.out.at 0 rfl) ((rwA 0 0).len (rwA 0 0)) (rwA 0 0) ?_
            simp only [Act.put]
            replace hM := hid (hM.out.put 0 rfl [.int .i64 0, .int .i64 0] ((rwA 0 0).len (rwA 0 0)))
            refine hK.out _ _ ⟨hM.out.at 4 rfl, hM.out.at 3 rfl⟩ (fun hH => ?_)
            clear hK K
            generalize World.setCells _ _ _ _ = W at hM hH ⊢
            try simp only [Act.put, p1, p2, p3]
            refine tk 14 rfl hH ?_
            simp only [Act.put, p1, p2, p3]
            refine wpAnyH_done (by kernel_rfl) ?_ _
            go_wp2_with fail
            go_meet
            case rel => exact ⟨bq4, bq5, rfl, rfl, rfl, (hM.out.pick [4, 2, 1, 0]).pickL []⟩
          refine rdc rfl (fun K hK => ?_) AllReadyH.nil
          go_simp
          replace hM := hid (hM.out.born [.int .i64 0, .int .i64 0] 58 rfl)
          refine hK.out _ _ ⟨hM.out.at 4 rfl, hM.out.at 3 rfl⟩ (fun hH => ?_)
          clear hK K
          generalize W.heap.size = bq5 at hM hH ⊢
          generalize World.alloc _ _ = W at hM hH  ⊢
          try simp only [Act.put, p1, p2, p3]
          refine rd1 5 rfl (fun K hK => ?_)
          go_simp
          refine (DD.out _).mono ?_
          rintro e W ⟨rfl, hb⟩
          replace hM := hid (hM.out.later hb)
          clear hb
          go_wp2_with fail
          refine hK.out _ _ ⟨hM.out.at 4 rfl, hM.out.at 3 rfl⟩ (fun hH => ?_)
          clear hK K
          try simp only [Act.put, p1, p2, p3]
          refine tk 6 rfl hH ?_
          simp only [Act.put, p1, p2, p3]
          refine tk 7 rfl hH ?_
          simp only [Act.put, p1, p2, p3]
          refine tk 8 rfl hH ?_
          simp only [Act.put, p1, p2, p3]
          refine tk 9 rfl hH ?_
          simp only [Act.put, p1, p2, p3]
          refine rd1 12 rfl (fun K hK => ?_)
          refine stR rfl (hM.out.at 1 rfl) ((rwC wz).len (rwC wz)) (rwC wz) ?_
          simp only [Act.put]
          replace hM := hid (hM.out.put 1 rfl (wl wz) ((rwC wz).len (rwC wz)))
          refine hK.out _ _ ⟨hM.out.at 4 rfl, hM.out.at 3 rfl⟩ (fun hH => ?_)
          clear hK K
          generalize World.setCells _ _ _ _ = W at hM hH ⊢
          try simp only [Act.put, p1, p2, p3]
          refine rd1 13 rfl (fun K hK => ?_)
          refine stR rfl (hM.out.at 0 rfl) ((rwA 0 0).len (rwA 0 0)) (rwA 0 0) ?_
          simp only [Act.put]
          replace hM := hid (hM.out.put 0 rfl [.int .i64 0, .int .i64 0] ((rwA 0 0).len (rwA 0 0)))
          refine hK.out _ _ ⟨hM.out.at 4 rfl, hM.out.at 3 rfl⟩ (fun hH => ?_)
          clear hK K
          generalize World.setCells _ _ _ _ = W at hM hH ⊢
          try simp only [Act.put, p1, p2, p3]
          refine tk 14 rfl hH ?_
          simp only [Act.put, p1, p2, p3]
          refine wpAnyH_done (by kernel_rfl) ?_ _
          go_wp2_with fail
          go_meet
          case rel => exact ⟨bq4, bq5, rfl, rfl, rfl, (hM.out.pick [4, 2, 1, 0]).pickL []⟩
        refine rdc rfl (fun K hK => ?_) AllReadyH.nil
        go_simp
        replace hM := hid (hM.out.born [.int .i64 0, .int .i64 0] 58 rfl)
        refine hK.out _ _ ⟨hM.out.at 4 rfl, hM.out.at 3 rfl⟩ (fun hH => ?_)
        clear hK K
        generalize W.heap.size = bq5 at hM hH ⊢
        generalize World.alloc _ _ = W at hM hH  ⊢
        try simp only [Act.put, p1, p2, p3]
        refine rd1 3 rfl (fun K hK => ?_)
        go_simp
        refine (OJ.out _).mono ?_
        rintro e W ⟨rfl, hb⟩
        replace hM := hid (hM.out.later hb)
        clear hb
        go_wp2_with fail
        refine hK.out _ _ ⟨hM.out.at 4 rfl, hM.out.at 3 rfl⟩ (fun hH => ?_)
        clear hK K
        try simp only [Act.put, p1, p2, p3]
        refine rd1 5 rfl (fun K hK => ?_)
        go_simp
        refine (DD.out _).mono ?_
        rintro e W ⟨rfl, hb⟩
        replace hM := hid (hM.out.later hb)
        clear hb
        go_wp2_with fail
        refine hK.out _ _ ⟨hM.out.at 4 rfl, hM.out.at 3 rfl⟩ (fun hH => ?_)
        clear hK K
        try simp only [Act.put, p1, p2, p3]
        refine tk 6 rfl hH ?_
        simp only [Act.put, p1, p2, p3]
        refine tk 7 rfl hH ?_
        simp only [Act.put, p1, p2, p3]
        refine tk 8 rfl hH ?_
        simp only [Act.put, p1, p2, p3]
        refine tk 9 rfl hH ?_
        simp only [Act.put, p1, p2, p3]
        refine rd1 12 rfl (fun K hK => ?_)
        refine stR rfl (hM.out.at 1 rfl) ((rwC wz).len (rwC wz)) (rwC wz) ?_
        simp only [Act.put]
        replace hM := hid (hM.out.put 1 rfl (wl wz) ((rwC wz).len (rwC wz)))
        refine hK.out _ _ ⟨hM.out.at 4 rfl, hM.out.at 3 rfl⟩ (fun hH => ?_)
        clear hK K
        generalize World.setCells _ _ _ _ = W at hM hH ⊢
        try simp only [Act.put, p1, p2, p3]
        refine rd1 13 rfl (fun K hK => ?_)
        refine stR rfl (hM.out.at 0 rfl) ((rwA 0 0).len (rwA 0 0)) (rwA 0 0) ?_
        simp only [Act.put]
        replace hM := hid (hM.out.put 0 rfl [.int .i64 0, .int .i64 0] ((rwA 0 0).len (rwA 0 0)))
        refine hK.out _ _ ⟨hM.out.at 4 rfl, hM.out.at 3 rfl⟩ (fun hH => ?_)
        clear hK K
        generalize World.setCells _ _ _ _ = W at hM hH ⊢
        try simp only [Act.put, p1, p2, p3]
        refine tk 14 rfl hH ?_
        simp only [Act.put, p1, p2, p3]
        refine wpAnyH_done (by kernel_rfl) ?_ _
        go_wp2_with fail
        go_meet
        case rel => exact ⟨bq4, bq5, rfl, rfl, rfl, (hM.out.pick [4, 2, 1, 0]).pickL []⟩
      refine rdc rfl (fun K hK => ?_) AllReadyH.nil
      go_simp
      replace hM := hid (hM.out.born [.int .i64 0, .int .i64 0] 58 rfl)
      refine hK.out _ _ ⟨hM.out.at 3 rfl, hM.out.at 2 rfl⟩ (fun hH => ?_)
      clear hK K
      generalize W.heap.size = bq4 at hM hH ⊢
      generalize World.alloc _ _ = W at hM hH  ⊢
      try simp only [Act.put, p1, p2, p3]
      refine rdn [3, 10] ?_
      refine rdc rfl (fun K hK => ?_) ?_
      · go_simp
        refine (OJ.out _).mono ?_
        rintro e W ⟨rfl, hb⟩
        replace hM := hid (hM.out.later hb)
        clear hb
        go_wp2_with fail
        refine hK.out _ _ ⟨hM.out.at 3 rfl, hM.out.at 2 rfl⟩ (fun hH => ?_)
        clear hK K
        try simp only [Act.put, p1, p2, p3]
        refine rdn [5, 10] ?_
        refine rdc rfl (fun K hK => ?_) ?_
        · go_simp
          refine (DD.out _).mono ?_
          rintro e W ⟨rfl, hb⟩
          replace hM := hid (hM.out.later hb)
          clear hb
          go_wp2_with fail
          refine hK.out _ _ ⟨hM.out.at 3 rfl, hM.out.at 2 rfl⟩ (fun hH => ?_)
          clear hK K
          try simp only [Act.put, p1, p2, p3]
          refine tk 6 rfl hH ?_
          simp only [Act.put, p1, p2, p3]
          refine tk 7 rfl hH ?_
          simp only [Act.put, p1, p2, p3]
          refine tk 8 rfl hH ?_
          simp only [Act.put, p1, p2, p3]
          refine tk 9 rfl hH ?_
          simp only [Act.put, p1, p2, p3]
          refine rd1 10 rfl (fun K hK => ?_)
          go_simp
          replace hM := hid (hM.out.bornR wz_all.symm 119 rfl)
          refine hK.out _ _ ⟨hM.out.at 4 rfl, hM.out.at 3 rfl⟩ (fun hH => ?_)
          clear hK K
          generalize W.heap.size = bq5 at hM hH ⊢
          generalize World.alloc _ _ = W at hM hH  ⊢
          try simp only [Act.put, p1, p2, p3]
          refine rd1 12 rfl (fun K hK => ?_)
          refine stR rfl (hM.out.at 0 rfl) ((rwC wz).len (rwC wz)) (rwC wz) ?_
          simp only [Act.put]
          replace hM := hid (hM.out.put 0 rfl (wl wz) ((rwC wz).len (rwC wz)))
          refine hK.out _ _ ⟨hM.out.at 4 rfl, hM.out.at 3 rfl⟩ (fun hH => ?_)
          clear hK K
          generalize World.setCells _ _ _ _ = W at hM hH ⊢
          try simp only [Act.put, p1, p2, p3]
          refine rd1 13 rfl (fun K hK => ?_)
          refine stR rfl (hM.out.at 1 rfl) ((rwA 0 0).len (rwA 0 0)) (rwA 0 0) ?_
          simp only [Act.put]
          replace hM := hid (hM.out.put 1 rfl [.int .i64 0, .int .i64 0] ((rwA 0 0).len (rwA 0 0)))
          refine hK.out _ _ ⟨hM.out.at 4 rfl, hM.out.at 3 rfl⟩ (fun hH => ?_)
          clear hK K
          generalize World.setCells _ _ _ _ = W at hM hH ⊢
          try simp only [Act.put, p1, p2, p3]
          refine tk 14 rfl hH ?_
          simp only [Act.put, p1, p2, p3]
          refine wpAnyH_done (by kernel_rfl) ?_ _
          go_wp2_with fail
          go_meet
          case rel => exact ⟨bq5, bq4, rfl, rfl, rfl, (hM.out.pick [4, 2, 0, 1]).pickL []⟩
        refine rdc rfl (fun K hK => ?_) AllReadyH.nil
        go_simp
        replace hM := hid (hM.out.bornR wz_all.symm 119 rfl)
        refine hK.out _ _ ⟨hM.out.at 4 rfl, hM.out.at 3 rfl⟩ (fun hH => ?_)
        clear hK K
        generalize W.heap.size = bq5 at hM hH ⊢
        generalize World.alloc _ _ = W at hM hH  ⊢
        try simp only [Act.put, p1, p2, p3]
        refine rd1 5 rfl (fun K hK => ?_)
        go_simp
        refine (DD.out _).mono ?_
        rintro e W ⟨rfl, hb⟩
        replace hM := hid (hM.out.later hb)
        clear hb
        go_wp2_with fail
        refine hK.out _ _ ⟨hM.out.at 4 rfl, hM.out.at 3 rfl⟩ (fun hH => ?_)
        clear hK K
        try simp only [Act.put, p1, p2, p3]
        refine tk 6 rfl hH ?_
        simp only [Act.put, p1, p2, p3]
        refine tk 7 rfl hH ?_
        simp only [Act.put, p1, p2, p3]
        refine tk 8 rfl hH ?_
        simp only [Act.put, p1, p2, p3]
        refine tk 9 rfl hH ?_
        simp only [Act.put, p1, p2, p3]
        refine rd1 12 rfl (fun K hK => ?_)
        refine stR rfl (hM.out.at 0 rfl) ((rwC wz).len (rwC wz)) (rwC wz) ?_
        simp only [Act.put]
        replace hM := hid (hM.out.put 0 rfl (wl wz) ((rwC wz).len (rwC wz)))
        refine hK.out _ _ ⟨hM.out.at 4 rfl, hM.out.at 3 rfl⟩ (fun hH => ?_)
        clear hK K
        generalize World.setCells _ _ _ _ = W at hM hH ⊢
        try simp only [Act.put, p1, p2, p3]
        refine rd1 13 rfl (fun K hK => ?_)
        refine stR rfl (hM.out.at 1 rfl) ((rwA 0 0).len (rwA 0 0)) (rwA 0 0) ?_
        simp only [Act.put]
        replace hM := hid (hM.out.put 1 rfl [.int .i64 0, .int .i64 0] ((rwA 0 0).len (rwA 0 0)))
        refine hK.out _ _ ⟨hM.out.at 4 rfl, hM.out.at 3 rfl⟩ (fun hH => ?_)
        clear hK K
        generalize World.setCells _ _ _ _ = W at hM hH ⊢
        try simp only [Act.put, p1, p2, p3]
        refine tk 14 rfl hH ?_
        simp only [Act.put, p1, p2, p3]
        refine wpAnyH_done (by kernel_rfl) ?_ _
        go_wp2_with fail
        go_meet
        case rel => exact ⟨bq5, bq4, rfl, rfl, rfl, (hM.out.pick [4, 2, 0, 1]).pickL []⟩
      refine rdc rfl (fun K hK => ?_) AllReadyH.nil
      go_simp
      replace hM := hid (hM.out.bornR wz_all.symm 119 rfl)
      refine hK.out _ _ ⟨hM.out.at 4 rfl, hM.out.at 3 rfl⟩ (fun hH => ?_)
      clear hK K
      generalize W.heap.size = bq5 at hM hH ⊢
      generalize World.alloc _ _ = W at hM hH  ⊢
      try simp only [Act.put, p1, p2, p3]
      refine rd1 3 rfl (fun K hK => ?_)
      go_simp
      refine (OJ.out _).mono ?_
      rintro e W ⟨rfl, hb⟩
      replace hM := hid (hM.out.later hb)
      clear hb
      go_wp2_with fail
      refine hK.out _ _ ⟨hM.out.at 4 rfl, hM.out.at 3 rfl⟩ (fun hH => ?_)
      clear hK K
      try simp only [Act.put, p1, p2, p3]
      refine rd1 5 rfl (fun K hK => ?_)
      go_simp
      refine (DD.out _).mono ?_
      rintro e W ⟨rfl, hb⟩
      replace hM := hid (hM.out.later hb)
      clear hb
      go_wp2_with fail
      refine hK.out _ _ ⟨hM.out.at 4 rfl, hM.out.at 3 rfl⟩ (fun hH => ?_)
      clear hK K
      try simp only [Act.put, p1, p2, p3]
      refine tk 6 rfl hH ?_
      simp only [Act.put, p1, p2, p3]
      refine tk 7 rfl hH ?_
      simp only [Act.put, p1, p2, p3]
      refine tk 8 rfl hH ?_
      simp only [Act.put, p1, p2, p3]
      refine tk 9 rfl hH ?_
      simp only [Act.put, p1, p2, p3]
      refine rd1 12 rfl (fun K hK => ?_)
      refine stR rfl (hM.out.at 0 rfl) ((rwC wz).len (rwC wz)) (rwC wz) ?_
      simp only [Act.put]
      replace hM := hid (hM.out.put 0 rfl (wl wz) ((rwC wz).len (rwC wz)))
      refine hK.out _ _ ⟨hM.out.at 4 rfl, hM.out.at 3 rfl⟩ (fun hH => ?_)
      clear hK K
      generalize World.setCells _ _ _ _ = W at hM hH ⊢
      try simp only [Act.put, p1, p2, p3]
      refine rd1 13 rfl (fun K hK => ?_)
      refine stR rfl (hM.out.at 1 rfl) ((rwA 0 0).len (rwA 0 0)) (rwA 0 0) ?_
      simp only [Act.put]
      replace hM := hid (hM.out.put 1 rfl [.int .i64 0, .int .i64 0] ((rwA 0 0).len (rwA 0 0)))
      refine hK.out _ _ ⟨hM.out.at 4 rfl, hM.out.at 3 rfl⟩ (fun hH => ?_)
      clear hK K
      generalize World.setCells _ _ _ _ = W at hM hH ⊢
      try simp only [Act.put, p1, p2, p3]
      refine tk 14 rfl hH ?_
      simp only [Act.put, p1, p2, p3]
      refine wpAnyH_done (by kernel_rfl) ?_ _
      go_wp2_with fail
      go_meet
      case rel => exact ⟨bq5, bq4, rfl, rfl, rfl, (hM.out.pick [4, 2, 0, 1]).pickL []⟩
    refine rdc rfl (fun K hK => ?_) ?_
    · go_simp
      replace hM := hid (hM.out.bornR wz_all.symm 119 rfl)
      refine hK.out _ _ ⟨hM.out.at 3 rfl, hM.out.at 2 rfl⟩ (fun hH => ?_)
      clear hK K
      generalize W.heap.size = bq4 at hM hH ⊢
      generalize World.alloc _ _ = W at hM hH  ⊢
      try simp only [Act.put, p1, p2, p3]
      refine rdn [1, 11] ?_
      refine rdc rfl (fun K hK => ?_) ?_
      · go_simp
        refine (KI.out _).mono ?_
        rintro e W ⟨rfl, hb⟩
        replace hM := hid (hM.out.later hb)
        clear hb
        go_wp2_with fail
        refine hK.out _ _ ⟨hM.out.at 3 rfl, hM.out.at 2 rfl⟩ (fun hH => ?_)
        clear hK K
        try simp only [Act.put, p1, p2, p3]
        refine rdn [3, 11] ?_
        refine rdc rfl (fun K hK => ?_) ?_
        · go_simp
          refine (OJ.out _).mono ?_
          rintro e W ⟨rfl, hb⟩
          replace hM := hid (hM.out.later hb)
          clear hb
          go_wp2_with fail
          refine hK.out _ _ ⟨hM.out.at 3 rfl, hM.out.at 2 rfl⟩ (fun hH => ?_)
          clear hK K
          try simp only [Act.put, p1, p2, p3]
          refine rdn [5, 11] ?_
          refine rdc rfl (fun K hK => ?_) ?_
          · go_simp
            refine (DD.out _).mono ?_
            rintro e W ⟨rfl, hb⟩
            replace hM := hid (hM.out.later hb)
            clear hb
            go_wp2_with fail
            refine hK.out _ _ ⟨hM.out.at 3 rfl, hM.out.at 2 rfl⟩ (fun hH => ?_)
            clear hK K
            try simp only [Act.put, p1, p2, p3]
            refine tk 6 rfl hH ?_
            simp only [Act.put, p1, p2, p3]
            refine tk 7 rfl hH ?_
            simp only [Act.put, p1, p2, p3]
            refine tk 8 rfl hH ?_
            simp only [Act.put, p1, p2, p3]
            refine tk 9 rfl hH ?_
            simp only [Act.put, p1, p2, p3]
            refine rd1 11 rfl (fun K hK => ?_)
            go_simp
            replace hM := hid (hM.out.born [.int .i64 0, .int .i64 0] 58 rfl)
            refine hK.out _ _ ⟨hM.out.at 4 rfl, hM.out.at 3 rfl⟩ (fun hH => ?_)
            clear hK K
            generalize W.heap.size = bq5 at hM hH ⊢
            generalize World.alloc _ _ = W at hM hH  ⊢
            try simp only [Act.put, p1, p2, p3]
            refine rd1 12 rfl (fun K hK => ?_)
            refine stR rfl (hM.out.at 1 rfl) ((rwC wz).len (rwC wz)) (rwC wz) ?_
            simp only [Act.put]
            replace hM := hid (hM.out.put 1 rfl (wl wz) ((rwC wz).len (rwC wz)))
            refine hK.out _ _ ⟨hM.out.at 4 rfl, hM.out.at 3 rfl⟩ (fun hH => ?_)
            clear hK K
            generalize World.setCells _ _ _ _ = W at hM hH ⊢
            try simp only [Act.put, p1, p2, p3]
            refine rd1 13 rfl (fun K hK => ?_)
            refine stR rfl (hM.out.at 0 rfl) ((rwA 0 0).len (rwA 0 0)) (rwA 0 0) ?_
            simp only [Act.put]
            replace hM := hid (hM.out.put 0 rfl [.int .i64 0, .int .i64 0] ((rwA 0 0).len (rwA 0 0)))
            refine hK.out _ _ ⟨hM.out.at 4 rfl, hM.out.at 3 rfl⟩ (fun hH => ?_)
            clear hK K
            generalize World.setCells _ _ _ _ = W at hM hH ⊢
            try simp only [Act.put, p1, p2, p3]
            refine tk 14 rfl hH ?_
            simp only [Act.put, p1, p2, p3]
            refine wpAnyH_done (by kernel_rfl) ?_ _
            go_wp2_with fail
            go_meet
            case rel => exact ⟨bq4, bq5, rfl, rfl, rfl, (hM.out.pick [4, 2, 1, 0]).pickL []⟩
          refine rdc rfl (fun K hK => ?_) AllReadyH.nil
          go_simp
          replace hM := hid (hM.out.born [.int .i64 0, .int .i64 0] 58 rfl)
          refine hK.out _ _ ⟨hM.out.at 4 rfl, hM.out.at 3 rfl⟩ (fun hH => ?_)
          clear hK K
          generalize W.heap.size = bq5 at hM hH ⊢
          generalize World.alloc _ _ = W at hM hH  ⊢
          try simp only [Act.put, p1, p2, p3]
          refine rd1 5 rfl (fun K hK => ?_)
          go_simp
          refine (DD.out _).mono ?_
          rintro e W ⟨rfl, hb⟩
          replace hM := hid (hM.out.later hb)
          clear hb
          go_wp2_with fail
          refine hK.out _ _ ⟨hM.out.at 4 rfl, hM.out.at 3 rfl⟩ (fun hH => ?_)
          clear hK K
          try simp only [Act.put, p1, p2, p3]
          refine tk 6 rfl hH ?_
          simp only [Act.put, p1, p2, p3]
          refine tk 7 rfl hH ?_
          simp only [Act.put, p1, p2, p3]
          refine tk 8 rfl hH ?_
          simp only [Act.put, p1, p2, p3]
          refine tk 9 rfl hH ?_
          simp only [Act.put, p1, p2, p3]
          refine rd1 12 rfl (fun K hK => ?_)
          refine stR rfl (hM.out.at 1 rfl) ((rwC wz).len (rwC wz)) (rwC wz) ?_
          simp only [Act.put]
          replace hM := hid (hM.out.put 1 rfl (wl wz) ((rwC wz).len (rwC wz)))
          refine hK.out _ _ ⟨hM.out.at 4 rfl, hM.out.at 3 rfl⟩ (fun hH => ?_)
          clear hK K
          generalize World.setCells _ _ _ _ = W at hM hH ⊢
          try simp only [Act.put, p1, p2, p3]
          refine rd1 13 rfl (fun K hK => ?_)
          refine stR rfl (hM.out.at 0 rfl) ((rwA 0 0).len (rwA 0 0)) (rwA 0 0) ?_
          simp only [Act.put]
          replace hM := hid (hM.out.put 0 rfl [.int .i64 0, .int .i64 0] ((rwA 0 0).len (rwA 0 0)))
          refine hK.out _ _ ⟨hM.out.at 4 rfl, hM.out.at 3 rfl⟩ (fun hH => ?_)
          clear hK K
          generalize World.setCells _ _ _ _ = W at hM hH ⊢
          try simp only [Act.put, p1, p2, p3]
          refine tk 14 rfl hH ?_
          simp only [Act.put, p1, p2, p3]
          refine wpAnyH_done (by kernel_rfl) ?_ _
          go_wp2_with fail
          go_meet
          case rel => exact ⟨bq4, bq5, rfl, rfl, rfl, (hM.out.pick [4, 2, 1, 0]).pickL []⟩
        refine rdc rfl (fun K hK => ?_) AllReadyH.nil
        go_simp
        replace hM := hid (hM.out.born [.int .i64 0, .int .i64 0] 58 rfl)
        refine hK.out _ _ ⟨hM.out.at 4 rfl, hM.out.at 3 rfl⟩ (fun hH => ?_)
        clear hK K
        generalize W.heap.size = bq5 at hM hH ⊢
        generalize World.alloc _ _ = W at hM hH  ⊢
        try simp only [Act.put, p1, p2, p3]
        refine rd1 3 rfl (fun K hK => ?_)
        go_simp
        refine (OJ.out _).mono ?_
        rintro e W ⟨rfl, hb⟩
        replace hM := hid (hM.out.later hb)
        clear hb
        go_wp2_with fail
        refine hK.out _ _ ⟨hM.out.at 4 rfl, hM.out.at 3 rfl⟩ (fun hH => ?_)
        clear hK K
        try simp only [Act.put, p1, p2, p3]
        refine rd1 5 rfl (fun K hK => ?_)
        go_simp
        refine (DD.out _).mono ?_
        rintro e W ⟨rfl, hb⟩
        replace hM := hid (hM.out.later hb)
        clear hb
        go_wp2_with fail
        refine hK.out _ _ ⟨hM.out.at 4 rfl, hM.out.at 3 rfl⟩ (fun hH => ?_)
        clear hK K
        try simp only [Act.put, p1, p2, p3]
        refine tk 6 rfl hH ?_
        simp only [Act.put, p1, p2, p3]
        refine tk 7 rfl hH ?_
        simp only [Act.put, p1, p2, p3]
        refine tk 8 rfl hH ?_
        simp only [Act.put, p1, p2, p3]
        refine tk 9 rfl hH ?_
        simp only [Act.put, p1, p2, p3]
        refine rd1 12 rfl (fun K hK => ?_)
        refine stR rfl (hM.out.at 1 rfl) ((rwC wz).len (rwC wz)) (rwC wz) ?_
        simp only [Act.put]
        replace hM := hid (hM.out.put 1 rfl (wl wz) ((rwC wz).len (rwC wz)))
        refine hK.out _ _ ⟨hM.out.at 4 rfl, hM.out.at 3 rfl⟩ (fun hH => ?_)
        clear hK K
        generalize World.setCells _ _ _ _ = W at hM hH ⊢
        try simp only [Act.put, p1, p2, p3]
        refine rd1 13 rfl (fun K hK => ?_)
        refine stR rfl (hM.out.at 0 rfl) ((rwA 0 0).len (rwA 0 0)) (rwA 0 0) ?_
        simp only [Act.put]
        replace hM := hid (hM.out.put 0 rfl [.int .i64 0, .int .i64 0] ((rwA 0 0).len (rwA 0 0)))
        refine hK.out _ _ ⟨hM.out.at 4 rfl, hM.out.at 3 rfl⟩ (fun hH => ?_)
        clear hK K
        generalize World.setCells _ _ _ _ = W at hM hH ⊢
        try simp only [Act.put, p1, p2, p3]
        refine tk 14 rfl hH ?_
        simp only [Act.put, p1, p2, p3]
        refine wpAnyH_done (by kernel_rfl) ?_ _
        go_wp2_with fail
        go_meet
        case rel => exact ⟨bq4, bq5, rfl, rfl, rfl, (hM.out.pick [4, 2, 1, 0]).pickL []⟩
      refine rdc rfl (fun K hK => ?_) AllReadyH.nil
      go_simp
      replace hM := hid (hM.out.born [.int .i64 0, .int .i64 0] 58 rfl)
      refine hK.out _ _ ⟨hM.out.at 4 rfl, hM.out.at 3 rfl⟩ (fun hH => ?_)
      clear hK K
      generalize W.heap.size = bq5 at hM hH ⊢
      generalize World.alloc _ _ = W at hM hH  ⊢
      try simp only [Act.put, p1, p2, p3]
      refine rd1 1 rfl (fun K hK => ?_)
      go_simp
      refine (KI.out _).mono ?_
      rintro e W ⟨rfl, hb⟩
      replace hM := hid (hM.out.later hb)
      clear hb
      go_wp2_with fail
      refine hK.out _ _ ⟨hM.out.at 4 rfl, hM.out.at 3 rfl⟩ (fun hH => ?_)
      clear hK K
      try simp only [Act.put, p1, p2, p3]
      refine rd1 3 rfl (fun K hK => ?_)
      go_simp
      refine (OJ.out _).mono ?_
      rintro e W ⟨rfl, hb⟩
      replace hM := hid (hM.out.later hb)
      clear hb
      go_wp2_with fail
      refine hK.out _ _ ⟨hM.out.at 4 rfl, hM.out.at 3 rfl⟩ (fun hH => ?_)
      clear hK K
      try simp only [Act.put, p1, p2, p3]
      refine rd1 5 rfl (fun K hK => ?_)
      go_simp
      refine (DD.out _).mono ?_
      rintro e W ⟨rfl, hb⟩
      replace hM := hid (hM.out.later hb)
      clear hb
      go_wp2_with fail
      refine hK.out _ _ ⟨hM.out.at 4 rfl, hM.out.at 3 rfl⟩ (fun hH => ?_)
      clear hK K
      try simp only [Act.put, p1, p2, p3]
      refine tk 6 rfl hH ?_
      simp only [Act.put, p1, p2, p3]
      refine tk 7 rfl hH ?_
      simp only [Act.put, p1, p2, p3]
      refine tk 8 rfl hH ?_
      simp only [Act.put, p1, p2, p3]
      refine tk 9 rfl hH ?_
      simp only [Act.put, p1, p2, p3]
      refine rd1 12 rfl (fun K hK => ?_)
      refine stR rfl (hM.out.at 1 rfl) ((rwC wz).len (rwC wz)) (rwC wz) ?_
      simp only [Act.put]
      replace hM := hid (hM.out.put 1 rfl (wl wz) ((rwC wz).len (rwC wz)))
      refine hK.out _ _ ⟨hM.out.at 4 rfl, hM.out.at 3 rfl⟩ (fun hH => ?_)
      clear hK K
      generalize World.setCells _ _ _ _ = W at hM hH ⊢
      try simp only [Act.put, p1, p2, p3]
      refine rd1 13 rfl (fun K hK => ?_)
      refine stR rfl (hM.out.at 0 rfl) ((rwA 0 0).len (rwA 0 0)) (rwA 0 0) ?_
      simp only [Act.put]
      replace hM := hid (hM.out.put 0 rfl [.int .i64 0, .int .i64 0] ((rwA 0 0).len (rwA 0 0)))
      refine hK.out _ _ ⟨hM.out.at 4 rfl, hM.out.at 3 rfl⟩ (fun hH => ?_)
      clear hK K
      generalize World.setCells _ _ _ _ = W at hM hH ⊢
      try simp only [Act.put, p1, p2, p3]
      refine tk 14 rfl hH ?_
      simp only [Act.put, p1, p2, p3]
      refine wpAnyH_done (by kernel_rfl) ?_ _
      go_wp2_with fail
      go_meet
      case rel => exact ⟨bq4, bq5, rfl, rfl, rfl, (hM.out.pick [4, 2, 1, 0]).pickL []⟩
    refine rdc rfl (fun K hK => ?_) AllReadyH.nil
    go_simp
    replace hM := hid (hM.out.born [.int .i64 0, .int .i64 0] 58 rfl)
    refine hK.out _ _ ⟨hM.out.at 3 rfl, hM.out.at 2 rfl⟩ (fun hH => ?_)
    clear hK K
    generalize W.heap.size = bq4 at hM hH ⊢
    generalize World.alloc _ _ = W at hM hH  ⊢
    try simp only [Act.put, p1, p2, p3]
    refine rdn [1, 10] ?_
    refine rdc rfl (fun K hK => ?_) ?_
    · go_simp
      refine (KI.out _).mono ?_
      rintro e W ⟨rfl, hb⟩
      replace hM := hid (hM.out.later hb)
      clear hb
      go_wp2_with fail
      refine hK.out _ _ ⟨hM.out.at 3 rfl, hM.out.at 2 rfl⟩ (fun hH => ?_)
      clear hK K
      try simp only [Act.put, p1, p2, p3]
      refine rdn [3, 10] ?_
      refine rdc rfl (fun K hK => ?_) ?_
      · go_simp
        refine (OJ.out _).mono ?_
        rintro e W ⟨rfl, hb⟩
        replace hM := hid (hM.out.later hb)
        clear hb
        go_wp2_with fail
        refine hK.out _ _ ⟨hM.out.at 3 rfl, hM.out.at 2 rfl⟩ (fun hH => ?_)
        clear hK K
        try simp only [Act.put, p1, p2, p3]
        refine rdn [5, 10] ?_
        refine rdc rfl (fun K hK => ?_) ?_
        · go_simp
          refine (DD.out _).mono ?_
          rintro e W ⟨rfl, hb⟩
          replace hM := hid (hM.out.later hb)
          clear hb
          go_wp2_with fail
          refine hK.out _ _ ⟨hM.out.at 3 rfl, hM.out.at 2 rfl⟩ (fun hH => ?_)
          clear hK K
          try simp only [Act.put, p1, p2, p3]
          refine tk 6 rfl hH ?_
          simp only [Act.put, p1, p2, p3]
          refine tk 7 rfl hH ?_
          simp only [Act.put, p1, p2, p3]
          refine tk 8 rfl hH ?_
          simp only [Act.put, p1, p2, p3]
          refine tk 9 rfl hH ?_
          simp only [Act.put, p1, p2, p3]
          refine rd1 10 rfl (fun K hK => ?_)
          go_simp
          replace hM := hid (hM.out.bornR wz_all.symm 119 rfl)
          refine hK.out _ _ ⟨hM.out.at 4 rfl, hM.out.at 3 rfl⟩ (fun hH => ?_)
          clear hK K
          generalize W.heap.size = bq5 at hM hH ⊢
          generalize World.alloc _ _ = W at hM hH  ⊢
          try simp only [Act.put, p1, p2, p3]
          refine rd1 12 rfl (fun K hK => ?_)
          refine stR rfl (hM.out.at 0 rfl) ((rwC wz).len (rwC wz)) (rwC wz) ?_
          simp only [Act.put]
          replace hM := hid (hM.out.put 0 rfl (wl wz) ((rwC wz).len (rwC wz)))
          refine hK.out _ _ ⟨hM.out.at 4 rfl, hM.out.at 3 rfl⟩ (fun hH => ?_)
          clear hK K
          generalize World.setCells _ _ _ _ = W at hM hH ⊢
          try simp only [Act.put, p1, p2, p3]
          refine rd1 13 rfl (fun K hK => ?_)
          refine stR rfl (hM.out.at 1 rfl) ((rwA 0 0).len (rwA 0 0)) (rwA 0 0) ?_
          simp only [Act.put]
          replace hM := hid (hM.out.put 1 rfl [.int .i64 0, .int .i64 0] ((rwA 0 0).len (rwA 0 0)))
          refine hK.out _ _ ⟨hM.out.at 4 rfl, hM.out.at 3 rfl⟩ (fun hH => ?_)
          clear hK K
          generalize World.setCells _ _ _ _ = W at hM hH ⊢
          try simp only [Act.put, p1, p2, p3]
          refine tk 14 rfl hH ?_
          simp only [Act.put, p1, p2, p3]
          refine wpAnyH_done (by kernel_rfl) ?_ _
          go_wp2_with fail
          go_meet
          case rel => exact ⟨bq5, bq4, rfl, rfl, rfl, (hM.out.pick [4, 2, 0, 1]).pickL []⟩
        refine rdc rfl (fun K hK => ?_) AllReadyH.nil
        go_simp
        replace hM := hid (hM.out.bornR wz_all.symm 119 rfl)
        refine hK.out _ _ ⟨hM.out.at 4 rfl, hM.out.at 3 rfl⟩ (fun hH => ?_)
        clear hK K
        generalize W.heap.size = bq5 at hM hH ⊢
        generalize World.alloc _ _ = W at hM hH  ⊢
        try simp only [Act.put, p1, p2, p3]
        refine rd1 5 rfl (fun K hK => ?_)
        go_simp
        refine (DD.out _).mono ?_
        rintro e W ⟨rfl, hb⟩
        replace hM := hid (hM.out.later hb)
        clear hb
        go_wp2_with fail
        refine hK.out _ _ ⟨hM.out.at 4 rfl, hM.out.at 3 rfl⟩ (fun hH => ?_)
        clear hK K
        try simp only [Act.put, p1, p2, p3]
        refine tk 6 rfl hH ?_
        simp only [Act.put, p1, p2, p3]
        refine tk 7 rfl hH ?_
        simp only [Act.put, p1, p2, p3]
        refine tk 8 rfl hH ?_
        simp only [Act.put, p1, p2, p3]
        refine tk 9 rfl hH ?_
        simp only [Act.put, p1, p2, p3]
        refine rd1 12 rfl (fun K hK => ?_)
        refine stR rfl (hM.out.at 0 rfl) ((rwC wz).len (rwC wz)) (rwC wz) ?_
        simp only [Act.put]
        replace hM := hid (hM.out.put 0 rfl (wl wz) ((rwC wz).len (rwC wz)))
        refine hK.out _ _ ⟨hM.out.at 4 rfl, hM.out.at 3 rfl⟩ (fun hH => ?_)
        clear hK K
        generalize World.setCells _ _ _ _ = W at hM hH ⊢
        try simp only [Act.put, p1, p2, p3]
        refine rd1 13 rfl (fun K hK => ?_)
        refine stR rfl (hM.out.at 1 rfl) ((rwA 0 0).len (rwA 0 0)) (rwA 0 0) ?_
        simp only [Act.put]
        replace hM := hid (hM.out.put 1 rfl [.int .i64 0, .int .i64 0] ((rwA 0 0).len (rwA 0 0)))
        refine hK.out _ _ ⟨hM.out.at 4 rfl, hM.out.at 3 rfl⟩ (fun hH => ?_)
        clear hK K
        generalize World.setCells _ _ _ _ = W at hM hH ⊢
        try simp only [Act.put, p1, p2, p3]
        refine tk 14 rfl hH ?_
        simp only [Act.put, p1, p2, p3]
        refine wpAnyH_done (by kernel_rfl) ?_ _
        go_wp2_with fail
        go_meet
        case rel => exact ⟨bq5, bq4, rfl, rfl, rfl, (hM.out.pick [4, 2, 0, 1]).pickL []⟩
      refine rdc rfl (fun K hK => ?_) AllReadyH.nil
      go_simp
      replace hM := hid (hM.out.bornR wz_all.symm 119 rfl)
      refine hK.out _ _ ⟨hM.out.at 4 rfl, hM.out.at 3 rfl⟩ (fun hH => ?_)
      clear hK K
      generalize W.heap.size = bq5 at hM hH ⊢
      generalize World.alloc _ _ = W at hM hH  ⊢
      try simp only [Act.put, p1, p2, p3]
      refine rd1 3 rfl (fun K hK => ?_)
      go_simp
      refine (OJ.out _).mono ?_
      rintro e W ⟨rfl, hb⟩
      replace hM := hid (hM.out.later hb)
      clear hb
      go_wp2_with fail
      refine hK.out _ _ ⟨hM.out.at 4 rfl, hM.out.at 3 rfl⟩ (fun hH => ?_)
      clear hK K
      try simp only [Act.put, p1, p2, p3]
      refine rd1 5 rfl (fun K hK => ?_)
      go_simp
      refine (DD.out _).mono ?_
      rintro e W ⟨rfl, hb⟩
      replace hM := hid (hM.out.later hb)
      clear hb
      go_wp2_with fail
      refine hK.out _ _ ⟨hM.out.at 4 rfl, hM.out.at 3 rfl⟩ (fun hH => ?_)
      clear hK K
      try simp only [Act.put, p1, p2, p3]
      refine tk 6 rfl hH ?_
      simp only [Act.put, p1, p2, p3]
      refine tk 7 rfl hH ?_
      simp only [Act.put, p1, p2, p3]
      refine tk 8 rfl hH ?_
      simp only [Act.put, p1, p2, p3]
      refine tk 9 rfl hH ?_
      simp only [Act.put, p1, p2, p3]
      refine rd1 12 rfl (fun K hK => ?_)
      refine stR rfl (hM.out.at 0 rfl) ((rwC wz).len (rwC wz)) (rwC wz) ?_
      simp only [Act.put]
      replace hM := hid (hM.out.put 0 rfl (wl wz) ((rwC wz).len (rwC wz)))
      refine hK.out _ _ ⟨hM.out.at 4 rfl, hM.out.at 3 rfl⟩ (fun hH => ?_)
      clear hK K
      generalize World.setCells _ _ _ _ = W at hM hH ⊢
      try simp only [Act.put, p1, p2, p3]
      refine rd1 13 rfl (fun K hK => ?_)
      refine stR rfl (hM.out.at 1 rfl) ((rwA 0 0).len (rwA 0 0)) (rwA 0 0) ?_
      simp only [Act.put]
      replace hM := hid (hM.out.put 1 rfl [.int .i64 0, .int .i64 0] ((rwA 0 0).len (rwA 0 0)))
      refine hK.out _ _ ⟨hM.out.at 4 rfl, hM.out.at 3 rfl⟩ (fun hH => ?_)
      clear hK K
      generalize World.setCells _ _ _ _ = W at hM hH ⊢
      try simp only [Act.put, p1, p2, p3]
      refine tk 14 rfl hH ?_
      simp only [Act.put, p1, p2, p3]
      refine wpAnyH_done (by kernel_rfl) ?_ _
      go_wp2_with fail
      go_meet
      case rel => exact ⟨bq5, bq4, rfl, rfl, rfl, (hM.out.pick [4, 2, 0, 1]).pickL []⟩
    refine rdc rfl (fun K hK => ?_) AllReadyH.nil
    go_simp
    replace hM := hid (hM.out.bornR wz_all.symm 119 rfl)
    refine hK.out _ _ ⟨hM.out.at 4 rfl, hM.out.at 3 rfl⟩ (fun hH => ?_)
    clear hK K
    generalize W.heap.size = bq5 at hM hH ⊢
    generalize World.alloc _ _ = W at hM hH  ⊢
    try simp only [Act.put, p1, p2, p3]
    refine rd1 1 rfl (fun K hK => ?_)
    go_simp
    refine (KI.out _).mono ?_
    rintro e W ⟨rfl, hb⟩
    replace hM := hid (hM.out.later hb)
    clear hb
    go_wp2_with fail
    refine hK.out _ _ ⟨hM.out.at 4 rfl, hM.out.at 3 rfl⟩ (fun hH => ?_)
    clear hK K
    try simp only [Act.put, p1, p2, p3]
    refine rd1 3 rfl (fun K hK => ?_)
    go_simp
    refine (OJ.out _).mono ?_
    rintro e W ⟨rfl, hb⟩
    replace hM := hid (hM.out.later hb)
    clear hb
    go_wp2_with fail
    refine hK.out _ _ ⟨hM.out.at 4 rfl, hM.out.at 3 rfl⟩ (fun hH => ?_)
    clear hK K
    try simp only [Act.put, p1, p2, p3]
    refine rd1 5 rfl (fun K hK => ?_)
    go_simp
    refine (DD.out _).mono ?_
    rintro e W ⟨rfl, hb⟩
    replace hM := hid (hM.out.later hb)
    clear hb
    go_wp2_with fail
    refine hK.out _ _ ⟨hM.out.at 4 rfl, hM.out.at 3 rfl⟩ (fun hH => ?_)
    clear hK K
    try simp only [Act.put, p1, p2, p3]
    refine tk 6 rfl hH ?_
    simp only [Act.put, p1, p2, p3]
    refine tk 7 rfl hH ?_
    simp only [Act.put, p1, p2, p3]
    refine tk 8 rfl hH ?_
    simp only [Act.put, p1, p2, p3]
    refine tk 9 rfl hH ?_
    simp only [Act.put, p1, p2, p3]
    refine rd1 12 rfl (fun K hK => ?_)
    refine stR rfl (hM.out.at 0 rfl) ((rwC wz).len (rwC wz)) (rwC wz) ?_
    simp only [Act.put]
    replace hM := hid (hM.out.put 0 rfl (wl wz) ((rwC wz).len (rwC wz)))
    refine hK.out _ _ ⟨hM.out.at 4 rfl, hM.out.at 3 rfl⟩ (fun hH => ?_)
    clear hK K
    generalize World.setCells _ _ _ _ = W at hM hH ⊢
    try simp only [Act.put, p1, p2, p3]
    refine rd1 13 rfl (fun K hK => ?_)
    refine stR rfl (hM.out.at 1 rfl) ((rwA 0 0).len (rwA 0 0)) (rwA 0 0) ?_
    simp only [Act.put]
    replace hM := hid (hM.out.put 1 rfl [.int .i64 0, .int .i64 0] ((rwA 0 0).len (rwA 0 0)))
    refine hK.out _ _ ⟨hM.out.at 4 rfl, hM.out.at 3 rfl⟩ (fun hH => ?_)
    clear hK K
    generalize World.setCells _ _ _ _ = W at hM hH ⊢
    try simp only [Act.put, p1, p2, p3]
    refine tk 14 rfl hH ?_
    simp only [Act.put, p1, p2, p3]
    refine wpAnyH_done (by kernel_rfl) ?_ _
    go_wp2_with fail
    go_meet
    case rel => exact ⟨bq5, bq4, rfl, rfl, rfl, (hM.out.pick [4, 2, 0, 1]).pickL []⟩
  case rest =>
    obtain ⟨bz8, bz9, rfl, rfl, rfl, hM⟩ := hcut
    generalize wc = W at hM ⊢
    go_wp2_with (first
      | (refine sR rfl (hM.out.at 1 rfl) rfl ((rwR wz).len (rwR wz)) (rwR wz) ?_
         replace hM := hid (hM.out.put 1 rfl (rl wz) ((rwR wz).len (rwR wz)))
         generalize World.setCells _ _ _ _ = W at hM ⊢))
    exact bodyPost_ret (res1s Tryz.results42 (hM.out.at 1 rfl) (rwR wz) (.iface 28 (.int .i64 1))) rfl ⟨rfl, hM.out.below⟩
end Go.Proofs.YteogbpaaacmllaaGreatDoor.Tab
namespace Go.Proofs.YteogbpaaacmllaaGreatDoor
set_option maxRecDepth 20000
open Go.RowKit

theorem Flip_no (x a : Int) (w : World) (h : a < 0 ∨ 63 < a) :
    Calls Tryz.prog 68 #[.int .u64 x, .int .i64 a] w fun e w' => e = .returned (.int .u64 x) ∧ w' = w := by
  go_enter Tryz.func68, Tryz.ntmps68
  go_wp2_with (go_at_call 71; refine (inside_no _ _ _ (by decide) (by omega)).mono ?_; rintro e w' ⟨rfl, rfl⟩)
  go_ret
  exact ⟨rfl, rfl⟩

theorem Flip_yes (x k : Nat) (w : World) (hx : x < 18446744073709551616) (hk : k < 64) :
    Calls Tryz.prog 68 #[.int .u64 x, .int .i64 k] w fun e w' => e = .returned (.int .u64 (x ^^^ 2 ^ k : Nat)) ∧ w' = w := by
  go_enter Tryz.func68, Tryz.ntmps68
  go_wp2_with (go_at_call 71; refine (inside_yes _ _ _ (by decide) (by omega) (by omega)).mono ?_; rintro e w' ⟨rfl, rfl⟩)
  go_ret
  exact ⟨ret_int (xor_pow x k hx hk), rfl⟩
end Go.Proofs.YteogbpaaacmllaaGreatDoor
