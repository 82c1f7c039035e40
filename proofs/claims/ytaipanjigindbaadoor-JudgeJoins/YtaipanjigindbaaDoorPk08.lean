/- Texts laid together: Package object: withList, by its contract: of queues, stacks, deques, heaps; Package object: Do, by its contract; Package judge: Legal, by its contracts; errors.As at an error at a place, by its contract; The library's handle, behind all that a call lays; An error taken apart, at a place; the law placed, by its contracts; Words of objects held against each other; The keepers pick, kindOf, put, made of none, judged, by their contracts; A row of deeds of the call's own, as it lies; Package object: Size, by its contract; An answer's size; The keepers' things, by its contract; The library's handle of the type error, off the row's condition; An argument that is a list of operations, as it lies in the call. -/
import Derived.Test.YtaipanjigindbaaDoorPk02
import Derived.Test.YtaipanjigindbaaDoorPk07
import Derived.Test.YtaipanjigindbaaDoorPk06
import Derived.Deep.DeepCutAuto
import Derived.Deep.RegionHeld3
import Derived.Test.YtaipanjigindbaaDoorPk03
import Derived.Test.YtaipanjigindbaaDoorPk04
import Derived.Test.YtaipanjigindbaaDoorPk00
import Derived.Test.YtaipanjigindbaaDoorPk01
import Derived.ChangeKeysEq
import Derived.Test.YtaipanjigindbaaDoorRows
import Derived.Test.YtaipanjigindbaaDoorTie
import Derived.ProofKit
import Derived.LaidMore
import Derived.LaidLaws
import Derived.LaidHandle
import Derived.OpenShut
import Derived.Stop.Joined
import Derived.Deep.Slices
import Derived.Deep.MidRow
namespace Go.Proofs.YtaipanjigindbaaDoor.Tab
set_option maxRecDepth 20000
open Go.RowKit
set_option linter.unusedVariables false

set_option maxHeartbeats 4000000 in
theorem wlist_any {c : Nat → Nat} {b fk : Nat} {ys : List Int} {o k x cc y : Int} (he : ∀ args (w : World), (callFunc fk args).run Tryd.prog w = .ok (.enter fk args) w) (hW : WList c) (hD : ∀ B W v, IsL B W v (lst c) → Calls Tryd.prog fk #[v, .agg #[.int .i64 o, .int .i64 k, .int .i64 x]] W (Made W ys cc y)) (hl : ys.length ≤ 6) (hv : ∀ z ∈ ys, 0 ≤ z ∧ z ≤ 4294967295) (w : World) (hb : Bo w b [fv fk]) :
    Calls Tryd.prog 71 #[.agg (wl c).toArray, .agg #[.int .i64 o, .int .i64 k, .int .i64 x], .pointer (some ⟨b, 0, none⟩)] w (fun e w' => e = .returned (.tuple #[.agg (wl (lw ys)).toArray, .agg #[.int .i64 cc, .int .i64 y]]) ∧ Below w.heap.size w w') := by
  have LI : Hid (∀ w : World, _) := fun w => list_is hW w
  have DD : Hid _ := hD
  have LW : Hid (∀ B W v, IsL B W v ys → _) := fun B W v h => listWords_is (B := B) (w := W) (v := v) h hl hv
  generalize lst c = xs at *
  clear hW hD hl hv
  have hF : Hid (Bo w b [.func (.func fk) #[] #[]]) := hb
  clear hb
  have hM : Hid _ := (((((Ms.nil w).born (wl c) 31 (b := w.heap.size) rfl).born [.int .i64 o, .int .i64 k, .int .i64 x] 47 (b := w.heap.size + 1) (by simp)).bornR wz_all.symm 31 (b := w.heap.size + 2) (by simp)).born [.int .i64 0, .int .i64 0] 49 (b := w.heap.size + 3) (by simp))
  go_enter Tryd.func71, Tryd.ntmps71
  go_wp2_with fail
  generalize World.alloc _ _ = W at hM ⊢
  generalize hsz : w.heap.size = n at hM ⊢
  clear hsz
  go_cut [7, 8] (fun s7 s8 wx => ∃ bz8 B7 : Nat, s8 = .pointer (some ⟨bz8, 0, none⟩) ∧ Hid (Ms n w wx [((n + 2), (wl wz)), ((n + 3), [.int .i64 0, .int .i64 0]), (bz8, [.int .i64 cc, .int .i64 y])] [(B7, s7, ys)]))
  case first =>
    replace hM := hid (hM.out.drew)
    refine wp_region_held_drew (S := fun w' => Bo w' b [.func (.func fk) #[] #[]] ∧ Bo w' n (wl c) ∧ Bo w' (n + 1) [.int .i64 o, .int .i64 k, .int .i64 x]) (by kernel_rfl) ⟨hF.out.later hM.out.below, hM.out.at 3 rfl, hM.out.at 2 rfl⟩ (fun hH => ?_)
    generalize World.drew _ = W at hM hH  ⊢
    refine tk 0 rfl hH ?_ (by intro w h; have c0 := h.1.at 0 rfl; clear h; go_simp; try with_reducible rfl)
    simp only [Act.put, p1, p2, p3]
    refine tkR 1 rfl hH (fun _ h => h.2.1) (rwC c) ?_
    simp only [Act.put, p1, p2, p3]
    refine tk 3 rfl hH ?_ (by intro w h; have c0 := h.2.2.at 0 rfl; have c1 := h.2.2.at 1 rfl; have c2 := h.2.2.at 2 rfl; clear h; go_simp; try with_reducible rfl)
    simp only [Act.put, p1, p2, p3]
    refine rdn [2, 8] ?_
    refine rdc rfl (fun K hK => ?_) ?_
    · go_simp
      refine (LI.out _).mono ?_
      rintro e W ⟨v1, rfl, I, hb⟩
      replace hM := hid (hM.out.laterL hb I (Nat.le_refl _))
      clear hb
      go_wp2_with fail
      refine hK.out _ _ ⟨hF.out.later hM.out.below, hM.out.at 3 rfl, hM.out.at 2 rfl⟩ (fun hH => ?_)
      clear hK K
      try simp only [Act.put, p1, p2, p3]
      refine rdn [4, 8] ?_
      refine rdc rfl (fun K hK => ?_) ?_
      · go_simp
        refine (DD.out _ _ _ (hM.out.isL 0 rfl)).mono ?_
        rintro e W ⟨v2, rfl, I, hb⟩
        replace hM := hid (hM.out.laterL hb I (Nat.le_refl _))
        clear hb
        go_wp2_with fail
        refine hK.out _ _ ⟨hF.out.later hM.out.below, hM.out.at 3 rfl, hM.out.at 2 rfl⟩ (fun hH => ?_)
        clear hK K
        try simp only [Act.put, p1, p2, p3]
        refine tk 5 rfl hH ?_
        simp only [Act.put, p1, p2, p3]
        refine tk 6 rfl hH ?_
        simp only [Act.put, p1, p2, p3]
        refine tk 7 rfl hH ?_
        simp only [Act.put, p1, p2, p3]
        refine rd1 8 rfl (fun K hK => ?_)
        go_simp
        replace hM := hid (hM.out.born [.int .i64 0, .int .i64 0] 49 rfl)
        refine hK.out _ _ ⟨hF.out.later hM.out.below, hM.out.at 4 rfl, hM.out.at 3 rfl⟩ (fun hH => ?_)
        clear hK K
        generalize W.heap.size = bq1 at hM hH ⊢
        generalize World.alloc _ _ = W at hM hH  ⊢
        try simp only [Act.put, p1, p2, p3]
        refine tk 9 rfl hH ?_
        simp only [Act.put, p1, p2, p3]
        refine rd1 10 rfl (fun K hK => ?_)
        refine stR rfl (hM.out.at 0 rfl) ((rwA 0 0).len (rwA cc y)) (rwA cc y) ?_
        simp only [Act.put]
        replace hM := hid (hM.out.put 0 rfl [.int .i64 cc, .int .i64 y] ((rwA 0 0).len (rwA cc y)))
        refine hK.out _ _ ⟨hF.out.later hM.out.below, hM.out.at 4 rfl, hM.out.at 3 rfl⟩ (fun hH => ?_)
        clear hK K
        generalize World.setCells _ _ _ _ = W at hM hH ⊢
        try simp only [Act.put, p1, p2, p3]
        refine wpAnyH_done (by kernel_rfl) ?_ _
        go_wp2_with fail
        go_meet
        case rel => exact ⟨bq1, _, rfl, (hM.out.pick [2, 1, 0]).pickL [0]⟩
      refine rdc rfl (fun K hK => ?_) AllReadyH.nil
      go_simp
      replace hM := hid (hM.out.born [.int .i64 0, .int .i64 0] 49 rfl)
      refine hK.out _ _ ⟨hF.out.later hM.out.below, hM.out.at 4 rfl, hM.out.at 3 rfl⟩ (fun hH => ?_)
      clear hK K
      generalize W.heap.size = bq1 at hM hH ⊢
      generalize World.alloc _ _ = W at hM hH  ⊢
      try simp only [Act.put, p1, p2, p3]
      refine rd1 4 rfl (fun K hK => ?_)
      go_simp
      refine (DD.out _ _ _ (hM.out.isL 0 rfl)).mono ?_
      rintro e W ⟨v2, rfl, I, hb⟩
      replace hM := hid (hM.out.laterL hb I (Nat.le_refl _))
      clear hb
      go_wp2_with fail
      refine hK.out _ _ ⟨hF.out.later hM.out.below, hM.out.at 4 rfl, hM.out.at 3 rfl⟩ (fun hH => ?_)
      clear hK K
      try simp only [Act.put, p1, p2, p3]
      refine tk 5 rfl hH ?_
      simp only [Act.put, p1, p2, p3]
      refine tk 6 rfl hH ?_
      simp only [Act.put, p1, p2, p3]
      refine tk 7 rfl hH ?_
      simp only [Act.put, p1, p2, p3]
      refine tk 9 rfl hH ?_
      simp only [Act.put, p1, p2, p3]
      refine rd1 10 rfl (fun K hK => ?_)
      refine stR rfl (hM.out.at 0 rfl) ((rwA 0 0).len (rwA cc y)) (rwA cc y) ?_
      simp only [Act.put]
      replace hM := hid (hM.out.put 0 rfl [.int .i64 cc, .int .i64 y] ((rwA 0 0).len (rwA cc y)))
      refine hK.out _ _ ⟨hF.out.later hM.out.below, hM.out.at 4 rfl, hM.out.at 3 rfl⟩ (fun hH => ?_)
      clear hK K
      generalize World.setCells _ _ _ _ = W at hM hH ⊢
      try simp only [Act.put, p1, p2, p3]
      refine wpAnyH_done (by kernel_rfl) ?_ _
      go_wp2_with fail
      go_meet
      case rel => exact ⟨bq1, _, rfl, (hM.out.pick [2, 1, 0]).pickL [0]⟩
    refine rdc rfl (fun K hK => ?_) AllReadyH.nil
    go_simp
    replace hM := hid (hM.out.born [.int .i64 0, .int .i64 0] 49 rfl)
    refine hK.out _ _ ⟨hF.out.later hM.out.below, hM.out.at 4 rfl, hM.out.at 3 rfl⟩ (fun hH => ?_)
    clear hK K
    generalize W.heap.size = bq1 at hM hH ⊢
    generalize World.alloc _ _ = W at hM hH  ⊢
    try simp only [Act.put, p1, p2, p3]
    refine rd1 2 rfl (fun K hK => ?_)
    go_simp
    refine (LI.out _).mono ?_
    rintro e W ⟨v1, rfl, I, hb⟩
    replace hM := hid (hM.out.laterL hb I (Nat.le_refl _))
    clear hb
    go_wp2_with fail
    refine hK.out _ _ ⟨hF.out.later hM.out.below, hM.out.at 4 rfl, hM.out.at 3 rfl⟩ (fun hH => ?_)
    clear hK K
    try simp only [Act.put, p1, p2, p3]
    refine rd1 4 rfl (fun K hK => ?_)
    go_simp
    refine (DD.out _ _ _ (hM.out.isL 0 rfl)).mono ?_
    rintro e W ⟨v2, rfl, I, hb⟩
    replace hM := hid (hM.out.laterL hb I (Nat.le_refl _))
    clear hb
    go_wp2_with fail
    refine hK.out _ _ ⟨hF.out.later hM.out.below, hM.out.at 4 rfl, hM.out.at 3 rfl⟩ (fun hH => ?_)
    clear hK K
    try simp only [Act.put, p1, p2, p3]
    refine tk 5 rfl hH ?_
    simp only [Act.put, p1, p2, p3]
    refine tk 6 rfl hH ?_
    simp only [Act.put, p1, p2, p3]
    refine tk 7 rfl hH ?_
    simp only [Act.put, p1, p2, p3]
    refine tk 9 rfl hH ?_
    simp only [Act.put, p1, p2, p3]
    refine rd1 10 rfl (fun K hK => ?_)
    refine stR rfl (hM.out.at 0 rfl) ((rwA 0 0).len (rwA cc y)) (rwA cc y) ?_
    simp only [Act.put]
    replace hM := hid (hM.out.put 0 rfl [.int .i64 cc, .int .i64 y] ((rwA 0 0).len (rwA cc y)))
    refine hK.out _ _ ⟨hF.out.later hM.out.below, hM.out.at 4 rfl, hM.out.at 3 rfl⟩ (fun hH => ?_)
    clear hK K
    generalize World.setCells _ _ _ _ = W at hM hH ⊢
    try simp only [Act.put, p1, p2, p3]
    refine wpAnyH_done (by kernel_rfl) ?_ _
    go_wp2_with fail
    go_meet
    case rel => exact ⟨bq1, _, rfl, (hM.out.pick [2, 1, 0]).pickL [0]⟩
  case rest =>
    obtain ⟨bz8, B7, rfl, hM⟩ := hcut
    generalize wc = W at hM ⊢
    go_wp2_with fail
    replace hM := hid (hM.out.drew)
    refine wp_region_held_drew (S := fun w' => Bo w' bz8 [.int .i64 cc, .int .i64 y]) (by kernel_rfl) (hM.out.at 2 rfl) (fun hH => ?_)
    generalize World.drew _ = W at hM hH  ⊢
    refine tk 0 rfl hH ?_
    simp only [Act.put, p1, p2, p3]
    refine tk 2 rfl hH ?_ (by intro w h; have c0 := h.at 0 rfl; have c1 := h.at 1 rfl; clear h; go_simp; try with_reducible rfl)
    simp only [Act.put, p1, p2, p3]
    refine rd1 1 rfl (fun K hK => ?_)
    go_simp
    refine (LW.out _ _ _ (hM.out.isL 0 rfl)).mono ?_
    rintro e W ⟨rfl, hb⟩
    replace hM := hid (hM.out.later hb)
    clear hb
    go_wp2_with fail
    refine hK.out _ _ (hM.out.at 2 rfl) (fun hH => ?_)
    clear hK K
    try simp only [Act.put, p1, p2, p3]
    refine rd1 3 rfl (fun K hK => ?_)
    refine stR rfl (hM.out.at 0 rfl) ((rwC wz).len (rwC (lw ys))) (rwC (lw ys)) ?_
    simp only [Act.put]
    replace hM := hid (hM.out.put 0 rfl (wl (lw ys)) ((rwC wz).len (rwC (lw ys))))
    refine hK.out _ _ (hM.out.at 2 rfl) (fun hH => ?_)
    clear hK K
    generalize World.setCells _ _ _ _ = W at hM hH ⊢
    try simp only [Act.put, p1, p2, p3]
    refine rd1 4 rfl (fun K hK => ?_)
    refine stR rfl (hM.out.at 1 rfl) ((rwA 0 0).len (rwA cc y)) (rwA cc y) ?_
    simp only [Act.put]
    replace hM := hid (hM.out.put 1 rfl [.int .i64 cc, .int .i64 y] ((rwA 0 0).len (rwA cc y)))
    refine hK.out _ _ (hM.out.at 2 rfl) (fun hH => ?_)
    clear hK K
    generalize World.setCells _ _ _ _ = W at hM hH ⊢
    try simp only [Act.put, p1, p2, p3]
    refine wpAnyH_done (by kernel_rfl) ?_ _
    go_wp2
    exact bodyPost_ret (res2 Tryd.results71 (hM.out.at 0 rfl) (rwC (lw ys)) (hM.out.at 1 rfl) (rwA _ _)) rfl ⟨rfl, hM.out.below⟩
theorem he_q (args : Array Value) (w : World) : (callFunc 52 args).run Tryd.prog w = .ok (.enter 52 args) w := by kernel_rfl
theorem wlist_q {c : Nat → Nat} {b : Nat} {ys : List Int} {o k x cc y : Int} (hW : WList c) (hD : ∀ B W v, IsL B W v (lst c) → Calls Tryd.prog 52 #[v, .agg #[.int .i64 o, .int .i64 k, .int .i64 x]] W (Made W ys cc y)) (hl : ys.length ≤ 6) (hv : ∀ z ∈ ys, 0 ≤ z ∧ z ≤ 4294967295) (w : World) (hb : Bo w b [fv 52]) :
    Calls Tryd.prog 71 #[.agg (wl c).toArray, .agg #[.int .i64 o, .int .i64 k, .int .i64 x], .pointer (some ⟨b, 0, none⟩)] w (fun e w' => e = .returned (.tuple #[.agg (wl (lw ys)).toArray, .agg #[.int .i64 cc, .int .i64 y]]) ∧ Below w.heap.size w w') := wlist_any he_q hW hD hl hv w hb
theorem he_s (args : Array Value) (w : World) : (callFunc 53 args).run Tryd.prog w = .ok (.enter 53 args) w := by kernel_rfl
theorem wlist_s {c : Nat → Nat} {b : Nat} {ys : List Int} {o k x cc y : Int} (hW : WList c) (hD : ∀ B W v, IsL B W v (lst c) → Calls Tryd.prog 53 #[v, .agg #[.int .i64 o, .int .i64 k, .int .i64 x]] W (Made W ys cc y)) (hl : ys.length ≤ 6) (hv : ∀ z ∈ ys, 0 ≤ z ∧ z ≤ 4294967295) (w : World) (hb : Bo w b [fv 53]) :
    Calls Tryd.prog 71 #[.agg (wl c).toArray, .agg #[.int .i64 o, .int .i64 k, .int .i64 x], .pointer (some ⟨b, 0, none⟩)] w (fun e w' => e = .returned (.tuple #[.agg (wl (lw ys)).toArray, .agg #[.int .i64 cc, .int .i64 y]]) ∧ Below w.heap.size w w') := wlist_any he_s hW hD hl hv w hb
theorem he_d (args : Array Value) (w : World) : (callFunc 54 args).run Tryd.prog w = .ok (.enter 54 args) w := by kernel_rfl
theorem wlist_d {c : Nat → Nat} {b : Nat} {ys : List Int} {o k x cc y : Int} (hW : WList c) (hD : ∀ B W v, IsL B W v (lst c) → Calls Tryd.prog 54 #[v, .agg #[.int .i64 o, .int .i64 k, .int .i64 x]] W (Made W ys cc y)) (hl : ys.length ≤ 6) (hv : ∀ z ∈ ys, 0 ≤ z ∧ z ≤ 4294967295) (w : World) (hb : Bo w b [fv 54]) :
    Calls Tryd.prog 71 #[.agg (wl c).toArray, .agg #[.int .i64 o, .int .i64 k, .int .i64 x], .pointer (some ⟨b, 0, none⟩)] w (fun e w' => e = .returned (.tuple #[.agg (wl (lw ys)).toArray, .agg #[.int .i64 cc, .int .i64 y]]) ∧ Below w.heap.size w w') := wlist_any he_d hW hD hl hv w hb
theorem he_h (args : Array Value) (w : World) : (callFunc 55 args).run Tryd.prog w = .ok (.enter 55 args) w := by kernel_rfl
theorem wlist_h {c : Nat → Nat} {b : Nat} {ys : List Int} {o k x cc y : Int} (hW : WList c) (hD : ∀ B W v, IsL B W v (lst c) → Calls Tryd.prog 55 #[v, .agg #[.int .i64 o, .int .i64 k, .int .i64 x]] W (Made W ys cc y)) (hl : ys.length ≤ 6) (hv : ∀ z ∈ ys, 0 ≤ z ∧ z ≤ 4294967295) (w : World) (hb : Bo w b [fv 55]) :
    Calls Tryd.prog 71 #[.agg (wl c).toArray, .agg #[.int .i64 o, .int .i64 k, .int .i64 x], .pointer (some ⟨b, 0, none⟩)] w (fun e w' => e = .returned (.tuple #[.agg (wl (lw ys)).toArray, .agg #[.int .i64 cc, .int .i64 y]]) ∧ Below w.heap.size w w') := wlist_any he_h hW hD hl hv w hb
end Go.Proofs.YtaipanjigindbaaDoor.Tab
namespace Go.Proofs.YtaipanjigindbaaDoor.Tab
set_option maxRecDepth 20000
open Go.RowKit
set_option linter.unusedVariables false

theorem he_list (args : Array Value) (w : World) : (callFunc 71 args).run Tryd.prog w = .ok (.enter 71 args) w := by kernel_rfl
theorem he_table (args : Array Value) (w : World) : (callFunc 56 args).run Tryd.prog w = .ok (.enter 56 args) w := by kernel_rfl
theorem he_tally (args : Array Value) (w : World) : (callFunc 57 args).run Tryd.prog w = .ok (.enter 57 args) w := by kernel_rfl
theorem wl_tyw (r : Nat) : wl (upw wz 0 r) = wl (tyw (r : Nat)) := wl_congr fun j hj => by
  unfold upw tyw wz
  by_cases e : j = 0
  · subst e; simp
  · rw [if_neg e, if_neg e]

def ptr (b : Nat) : Array Value := #[.pointer (some ⟨b, 0, none⟩)]
theorem obDo_is {kind o k x : Int} {c : Nat → Nat} (hO : isOb kind c) (hR : Rt o k x) (w : World) :
    Calls Tryd.prog 15 #[.int .i64 kind, .agg (wl c).toArray, .agg #[.int .i64 o, .int .i64 k, .int .i64 x]] w (DidD w (odo kind c o k x).1 (odo kind c o k x).2.1 (odo kind c o k x).2.2) := by
  obtain ⟨b1, b6⟩ := isOb_kind hO
  by_cases e5 : kind = 5
  · subst e5
    obtain ⟨h1, h2, h3⟩ : WTab c := by
      rcases hO with ⟨hk, _⟩ | ⟨hk, _⟩ | ⟨_, h⟩ | ⟨hk, _⟩ <;> first | exact h | omega
    have f := tdo_facts h3 hR.w1 hR.w6 hR.k0 hR.k1 hR.v0 hR.v1
    have e : odo 5 c o k x = (tw (tdo (tbl c) o k x).1, (tdo (tbl c) o k x).2) := by rw [odo, if_pos rfl]
    rw [e]
    refine obDo_any (cp := fun _ _ _ _ => #[]) he_table hR hO (fun u m b1 b2 b3 b4 D => D.mp.look 5 (by decide) (by decide) (deeds_5 b1 b2 b3 b4)) (fun u m b1 b2 b3 b4 D => ?_) w
    exact withTable_is (u := (tdo (tbl c) o k x).1) (cc := (tdo (tbl c) o k x).2.1) (y := (tdo (tbl c) o k x).2.2) (fun j hj => by have := upC_all h1 (j := j) (by omega) (by omega); omega) rfl (fun i hi => by have := f.rt.keys i hi; omega) (fun i hi => f.rt.vals i hi) u
  by_cases e6 : kind = 6
  · subst e6
    have h1 : isTb c = true := by
      rcases hO with ⟨hk, _⟩ | ⟨hk, _⟩ | ⟨hk, _⟩ | ⟨_, h⟩ <;> first | exact h | omega
    have hc : 0 ≤ ((c 0 : Nat) : Int) ∧ ((c 0 : Nat) : Int) ≤ 4294967295 := by
      unfold isTb at h1
      simp only [Bool.and_eq_true] at h1
      have := upC_all h1.1 (j := 0) (by omega) (by omega)
      omega
    have f := ado_facts hc.1 hc.2 hR.w1 hR.w6 hR.v0 hR.v1
    have e : odo 6 c o k x = (tyw (ado (c 0) o x).1, (ado (c 0) o x).2) := by rw [odo, if_neg (by decide), if_pos rfl]
    rw [e]
    refine obDo_any (cp := fun _ _ _ _ => #[]) he_tally hR hO (fun u m b1 b2 b3 b4 D => D.mp.look 6 (by decide) (by decide) (deeds_6 b1 b2 b3 b4)) (fun u m b1 b2 b3 b4 D => ?_) w
    have hr : (((ado (c 0) o x).1.toNat : Nat) : Int) = (ado (c 0) o x).1 := by have := f.rt.1; omega
    have := withTally_is (c := c) (m := c 0) (r := (ado (c 0) o x).1.toNat) (o := o) (k := k) (x := x) (cc := (ado (c 0) o x).2.1) (y := (ado (c 0) o x).2.2) rfl (by omega) hR.v0 hR.v1 (by have := f.rt.2; omega) (by rw [hr]) u
    rw [wl_tyw, hr] at this
    exact this
  have h4 : kind ≤ 4 := by omega
  obtain ⟨hb, hp⟩ := isOb_list h4 hO
  have hw := isLb_w hb
  have h6 : (lst c).length ≤ 6 := by rw [lst_length]; exact hw.len
  obtain ⟨f, g⟩ := ldo_facts (k := k) b1 h4 h6 (lst_val hw) hp hR.w1 hR.w6 hR.v0 hR.v1
  have e : odo kind c o k x = (lw (ldo kind (lst c) o x).1, (ldo kind (lst c) o x).2) := by rw [odo, if_neg e5, if_neg e6]
  rw [e]
  have : kind = 1 ∨ kind = 2 ∨ kind = 3 ∨ kind = 4 := by omega
  rcases this with rfl | rfl | rfl | rfl
  · exact obDo_any (cp := fun b1 _ _ _ => ptr b1) he_list hR hO (fun u m b1 b2 b3 b4 D => D.mp.look 1 (by decide) (by decide) (deeds_1 b1 b2 b3 b4)) (fun u m b1 b2 b3 b4 D => wlist_q hw (fun B W v h => qDo_eq k h (by omega) rfl) f.len f.val u D.q) w
  · exact obDo_any (cp := fun _ b2 _ _ => ptr b2) he_list hR hO (fun u m b1 b2 b3 b4 D => D.mp.look 2 (by decide) (by decide) (deeds_2 b1 b2 b3 b4)) (fun u m b1 b2 b3 b4 D => wlist_s hw (fun B W v h => sDo_eq k h (by omega) rfl) f.len f.val u D.s) w
  · exact obDo_any (cp := fun _ _ b3 _ => ptr b3) he_list hR hO (fun u m b1 b2 b3 b4 D => D.mp.look 3 (by decide) (by decide) (deeds_3 b1 b2 b3 b4)) (fun u m b1 b2 b3 b4 D => wlist_d hw (fun B W v h => dDo_eq k h (by omega) rfl) f.len f.val u D.d) w
  · exact obDo_any (cp := fun _ _ _ b4 => ptr b4) he_list hR hO (fun u m b1 b2 b3 b4 D => D.mp.look 4 (by decide) (by decide) (deeds_4 b1 b2 b3 b4)) (fun u m b1 b2 b3 b4 D => wlist_h hw (fun B W v h => hDo_eq k h (by omega) rfl) f.len f.val u D.h) w
theorem obDo_no {kind o k x : Int} {c : Nat → Nat} (h : ¬ (Rt o k x ∧ isOb kind c)) (w : World) :
    Calls Tryd.prog 15 #[.int .i64 kind, .agg (wl c).toArray, .agg #[.int .i64 o, .int .i64 k, .int .i64 x]] w (Refd w) := by
  by_cases hR : Rt o k x
  · exact obDo_isnt hR (fun hO => h ⟨hR, hO⟩) w
  · exact obDo_wrong hR w
end Go.Proofs.YtaipanjigindbaaDoor.Tab
namespace Go.Proofs.YtaipanjigindbaaDoor.Tab
set_option maxRecDepth 20000
open Go.RowKit
set_option linter.unusedVariables false

/-- What Legal answers: the object behind all, or an error at the first deed that is another one. -/
def LegalY (w : World) (c : Nat → Nat) (e : Ending) (w' : World) : Prop := e = .returned (.tuple #[.agg (wl c).toArray, .nilIface]) ∧ Below w.heap.size w w'
def LegalN (w : World) (m : Nat) (e : Ending) (w' : World) : Prop := ∃ b, e = .returned (.tuple #[.agg (wl wz).toArray, atV b]) ∧ w.heap.size ≤ b ∧ Bo w' b [.int .i64 13, .int .i64 (m : Nat)] ∧ Below w.heap.size w w'
set_option maxHeartbeats 2000000 in
theorem legal_no {kind : Int} (h : ¬ (1 ≤ kind ∧ kind ≤ 6)) (w : World) (v : Value) :
    Calls Tryd.prog 7 #[.int .i64 kind, v] w (fun e w' => e = .returned (.tuple #[.agg (wl wz).toArray, .iface 24 (.int .i64 1)]) ∧ Below w.heap.size w w') := by
  have IS : Hid (∀ w : World, _) := obIs_no h
  clear h
  have hM : Hid _ := ((Ms.nil w).bornR wz_all.symm 31 (b := w.heap.size) rfl)
  go_enter Tryd.func7, Tryd.ntmps7
  go_wp2_with fail
  refine (IS.out _).mono ?_
  rintro e ux ⟨rfl, hw⟩
  rw [hw]; clear hw ux
  generalize World.alloc _ _ = W at hM ⊢
  generalize hsz : w.heap.size = n at hM ⊢
  clear hsz
  go_wp2_with (first
    | (refine sR rfl (hM.out.at 0 rfl) rfl ((rwC wz).len (rwC wz)) (rwC wz) ?_
       replace hM := hid (hM.out.put 0 rfl (wl wz) ((rwC wz).len (rwC wz)))
       generalize World.setCells _ _ _ _ = W at hM ⊢))
  exact bodyPost_ret (res1s Tryd.results7 (hM.out.at 0 rfl) (rwC wz) (.iface 24 (.int .i64 1))) rfl ⟨rfl, hM.out.below⟩
set_option maxHeartbeats 2000000 in
theorem legal_nil {kind : Nat} (h1 : 1 ≤ kind) (h6 : kind ≤ 6) (w : World) :
    Calls Tryd.prog 7 #[.int .i64 (kind : Nat), .slice none 0 0] w (LegalY w wz) := by
  have IS : Hid (∀ w : World, _) := obIs_yes (k := (kind : Nat)) (by omega) (by omega)
  clear h1 h6
  have hM : Hid _ := ((Ms.nil w).bornR wz_all.symm 31 (b := w.heap.size) rfl)
  go_enter Tryd.func7, Tryd.ntmps7
  go_wp2_with fail
  refine (IS.out _).mono ?_
  rintro e ux ⟨rfl, hw⟩
  rw [hw]; clear hw ux
  generalize World.alloc _ _ = W at hM ⊢
  generalize hsz : w.heap.size = n at hM ⊢
  clear hsz
  obtain ⟨bx1, hbx1⟩ : ∃ q, q = W.heap.size := ⟨_, rfl⟩
  replace hM := hid (hM.out.bornR wz_all.symm 31 (b := bx1) hbx1)
  have Hbx1 : Hid _ := hbx1
  clear hbx1
  go_wp2_with fail
  rw [← Hbx1.out]
  generalize World.alloc _ _ = W at hM ⊢
  go_loopg [19] 0 (fun gg s19 wt => wt = W ∧ s19 = .int .i64 0)
  case atStart => exact ⟨rfl, rfl⟩
  case round =>
    obtain ⟨hw, rfl⟩ := hrel
    rw [hw]; clear hw wr
    go_wp2_with (first
      | (refine lR rfl (hM.out.at 0 rfl) rfl (rwC wz) ?_)
      | (refine sR rfl (hM.out.at 1 rfl) rfl ((rwC wz).len (rwC wz)) (rwC wz) ?_
         replace hM := hid (hM.out.put 1 rfl (wl wz) ((rwC wz).len (rwC wz)))
         generalize World.setCells _ _ _ _ = W at hM ⊢))
    exact bodyPost_ret (res1s Tryd.results7 (hM.out.at 1 rfl) (rwC wz) (.nilIface)) rfl ⟨rfl, hM.out.below⟩
set_option maxHeartbeats 2000000 in
theorem legal_none {kind : Nat} (h1 : 1 ≤ kind) (h6 : kind ≤ 6) (a : Addr) (c : Nat) (w : World) :
    Calls Tryd.prog 7 #[.int .i64 (kind : Nat), .slice (some a) 0 c] w (LegalY w wz) := by
  have IS : Hid (∀ w : World, _) := obIs_yes (k := (kind : Nat)) (by omega) (by omega)
  clear h1 h6
  have hM : Hid _ := ((Ms.nil w).bornR wz_all.symm 31 (b := w.heap.size) rfl)
  go_enter Tryd.func7, Tryd.ntmps7
  go_wp2_with fail
  refine (IS.out _).mono ?_
  rintro e ux ⟨rfl, hw⟩
  rw [hw]; clear hw ux
  generalize World.alloc _ _ = W at hM ⊢
  generalize hsz : w.heap.size = n at hM ⊢
  clear hsz
  obtain ⟨bx1, hbx1⟩ : ∃ q, q = W.heap.size := ⟨_, rfl⟩
  replace hM := hid (hM.out.bornR wz_all.symm 31 (b := bx1) hbx1)
  have Hbx1 : Hid _ := hbx1
  clear hbx1
  go_wp2_with fail
  rw [← Hbx1.out]
  generalize World.alloc _ _ = W at hM ⊢
  go_loopg [19] 0 (fun gg s19 wt => wt = W ∧ s19 = .int .i64 0)
  case atStart => exact ⟨rfl, rfl⟩
  case round =>
    obtain ⟨hw, rfl⟩ := hrel
    rw [hw]; clear hw wr
    go_wp2_with (first
      | (refine lR rfl (hM.out.at 0 rfl) rfl (rwC wz) ?_)
      | (refine sR rfl (hM.out.at 1 rfl) rfl ((rwC wz).len (rwC wz)) (rwC wz) ?_
         replace hM := hid (hM.out.put 1 rfl (wl wz) ((rwC wz).len (rwC wz)))
         generalize World.setCells _ _ _ _ = W at hM ⊢))
    exact bodyPost_ret (res1s Tryd.results7 (hM.out.at 1 rfl) (rwC wz) (.nilIface)) rfl ⟨rfl, hM.out.below⟩
set_option maxHeartbeats 8000000 in
theorem legal_some {kind : Nat} (h1 : 1 ≤ kind) (h6 : kind ≤ 6) {b off c n : Nat} {q : Nat → DD} (h0 : 0 < n) (hc : n ≤ c) (hn : n ≤ 9223372036854775807) (hO : ∀ j, j < n → Ok1 (kind : Nat) q j) (w : World) (D : Dq w (.slice (some ⟨b, off, none⟩) n c) n q) :
    Calls Tryd.prog 7 #[.int .i64 (kind : Nat), .slice (some ⟨b, off, none⟩) n c] w (LegalY w (oi (kind : Nat) q n)) := by
  have IS : Hid (∀ w : World, _) := obIs_yes (k := (kind : Nat)) (by omega) (by omega)
  have HE : Hid _ := hid D.all
  clear D
  have OB : Hid (∀ i, i ≤ n → isOb (kind : Nat) (oi (kind : Nat) q i)) := fun i hi => oi_ob (by omega) (by omega) i fun j hj => hO j (by omega)
  have HO : Hid _ := hO
  clear hO
  have HC : Hid (n ≤ c ∧ n ≤ 9223372036854775807) := ⟨hc, hn⟩
  clear hc hn h0 h1 h6
  have hM : Hid _ := ((Ms.nil w).bornR wz_all.symm 31 (b := w.heap.size) rfl)
  go_enter Tryd.func7, Tryd.ntmps7
  go_wp2_with fail
  refine (IS.out _).mono ?_
  rintro e ux ⟨rfl, hw⟩
  rw [hw]; clear hw ux
  generalize World.alloc _ _ = W at hM ⊢
  generalize hsz : w.heap.size = n0 at hM ⊢
  have HSZ : Hid _ := hsz
  clear hsz
  obtain ⟨bx1, hbx1⟩ : ∃ q, q = W.heap.size := ⟨_, rfl⟩
  replace hM := hid (hM.out.bornR wz_all.symm 31 (b := bx1) hbx1)
  have Hbx1 : Hid _ := hbx1
  clear hbx1
  go_wp2_with fail
  rw [← Hbx1.out]
  generalize World.alloc _ _ = W at hM ⊢
  go_loopg [19] n (fun gg s19 wt => ∃ i : Nat, i ≤ n ∧ n - i ≤ gg ∧ s19 = .int .i64 i ∧ Hid (Ms n0 w wt [(bx1, wl (oi (kind : Nat) q i)), (n0, wl wz)] []))
  case atStart => exact ⟨0, by omega, by omega, rfl, hM⟩
  case round =>
    clear hM
    obtain ⟨i, hi, hgg, rfl, hM⟩ := hrel
    obtain ⟨W, rfl⟩ : ∃ q, q = wr := ⟨_, rfl⟩
    obtain ⟨ci, hci⟩ : ∃ c, c = oi (kind : Nat) q i := ⟨_, rfl⟩
    rw [← hci] at hM
    by_cases hlt : i < n
    · have hi1 : (i : Int) < (n : Int) := by omega
      have hi0 : (0 : Int) ≤ (i : Int) := by omega
      obtain ⟨t, o, k, x, cc, y, hq, hr⟩ := HE.out W hM.out.below i (by omega)
      have RA : Hid _ := hr
      clear hr
      have OK := (Ok1.at hq).1 (HO.out i hlt)
      obtain ⟨cn, hcn⟩ : ∃ c, c = oi (kind : Nat) q (i + 1) := ⟨_, rfl⟩
      have HCN : Hid _ := hcn
      have DO : Hid (∀ w : World, Calls Tryd.prog 15 #[.int .i64 (kind : Nat), .agg (wl ci).toArray, .agg #[.int .i64 o, .int .i64 k, .int .i64 x]] w (DidD w cn cc y)) := fun w => by
        have h := obDo_is (kind := (kind : Nat)) (OB.out i (by omega)) OK.1 w
        rw [OK.2.1, OK.2.2, ← oi_at hq, ← hci, ← hcn] at h
        exact h
      clear OK hcn hci hq
      obtain ⟨bd, hbd⟩ : ∃ q, q = W.heap.size := ⟨_, rfl⟩
      have HBD : Hid _ := hbd
      clear hbd
      go_wp2_with (first
        | (refine lO rfl RA.out rfl (rwD t o k x cc y) ?_)
        | (rw [← HBD.out]
           replace hM := hid (hM.out.born [.int .i64 0, .int .i64 0, .int .i64 0, .int .i64 0, .int .i64 0, .int .i64 0] 53 HBD.out)
           refine sR rfl (hM.out.at 0 rfl) rfl ((rwD 0 0 0 0 0 0).len (rwD t o k x cc y)) (rwD t o k x cc y) ?_
           replace hM := hid (hM.out.put 0 rfl (dl t o k x cc y) ((rwD 0 0 0 0 0 0).len (rwD t o k x cc y)))
           generalize World.setCells _ _ _ _ = W at hM ⊢
           have c2 := hM.out.cell 0 1 rfl rfl
           have c3 := hM.out.cell 0 2 rfl rfl
           have c4 := hM.out.cell 0 3 rfl rfl)
        | (refine lR rfl (hM.out.at 1 rfl) rfl (rwC ci) ?_))
      refine (DO.out _).mono ?_
      rintro e W ⟨rfl, hb⟩
      replace hM := hid (hM.out.later hb)
      clear hb
      clear c2 c3 c4
      obtain ⟨bx5, hbx5⟩ : ∃ q, q = W.heap.size := ⟨_, rfl⟩
      replace hM := hid ((hM.out.bornR wz_all.symm 31 (b := bx5) hbx5).born [.int .i64 0, .int .i64 0] 49 (b := (bx5 + 1)) (by simp [hbx5]))
      have Hbx5 : Hid _ := hbx5
      clear hbx5
      go_wp2_with (first
        | (rw [← Hbx5.out]; refine sR rfl (hM.out.at 1 rfl) rfl ((rwC wz).len (rwC cn)) (rwC cn) ?_
           replace hM := hid (hM.out.put 1 rfl (wl cn) ((rwC wz).len (rwC cn)))
           generalize World.setCells _ _ _ _ = W at hM ⊢)
        | (refine sR rfl (hM.out.at 0 rfl) rfl ((rwA 0 0).len (rwA cc y)) (rwA cc y) ?_
           replace hM := hid (hM.out.put 0 rfl [.int .i64 cc, .int .i64 y] ((rwA 0 0).len (rwA cc y)))
           generalize World.setCells _ _ _ _ = W at hM ⊢
           have c6 := hM.out.cell 0 0 rfl rfl
           have c7 := hM.out.cell 0 1 rfl rfl
           have c8 := hM.out.cell 2 4 rfl rfl
           have c9 := hM.out.cell 2 5 rfl rfl)
        | (refine lR rfl (hM.out.at 1 rfl) rfl (rwC cn) ?_)
        | (refine sR rfl (hM.out.at 3 rfl) rfl ((rwC ci).len (rwC cn)) (rwC cn) ?_
           replace hM := hid (hM.out.put 3 rfl (wl cn) ((rwC ci).len (rwC cn)))
           generalize World.setCells _ _ _ _ = W at hM ⊢))
      clear c6 c7 c8 c9
      go_roundg (n - (i + 1))
      case measure => omega
      case rel => exact ⟨i + 1, by omega, by omega, by have := HC.out; have hw : wrap64 ((i : Int) + 1) = ((i + 1 : Nat) : Int) := (by unfold wrap64; omega); rw [hw], by rw [← HCN.out]; exact hM.out.pick [3, 4]⟩
    · obtain rfl : i = n := by omega
      have hi1 : ¬ (i : Int) < (i : Int) := by omega
      go_wp2_with (first
        | (refine lR rfl (hM.out.at 0 rfl) rfl (rwC ci) ?_)
        | (refine sR rfl (hM.out.at 1 rfl) rfl ((rwC wz).len (rwC ci)) (rwC ci) ?_
           replace hM := hid (hM.out.put 1 rfl (wl ci) ((rwC wz).len (rwC ci)))
           generalize World.setCells _ _ _ _ = W at hM ⊢))
      exact bodyPost_ret (res1s Tryd.results7 (hM.out.at 1 rfl) (rwC ci) (.nilIface)) rfl ⟨by rw [hci], hM.out.below⟩
set_option maxHeartbeats 8000000 in
theorem legal_bad {kind : Nat} (h1 : 1 ≤ kind) (h6 : kind ≤ 6) {b off c n m : Nat} {q : Nat → DD} (h0 : 0 < n) (hc : n ≤ c) (hn : n ≤ 9223372036854775807) (hm : m < n) (hO : ∀ j, j < m → Ok1 (kind : Nat) q j) (hB : ¬ Ok1 (kind : Nat) q m) (w : World) (D : Dq w (.slice (some ⟨b, off, none⟩) n c) n q) :
    Calls Tryd.prog 7 #[.int .i64 (kind : Nat), .slice (some ⟨b, off, none⟩) n c] w (LegalN w m) := by
  have IS : Hid (∀ w : World, _) := obIs_yes (k := (kind : Nat)) (by omega) (by omega)
  have HE : Hid _ := hid D.all
  clear D
  have OB : Hid (∀ i, i ≤ m → isOb (kind : Nat) (oi (kind : Nat) q i)) := fun i hi => oi_ob (by omega) (by omega) i fun j hj => hO j (by omega)
  have HO : Hid _ := hO
  clear hO
  have HB : Hid _ := hB
  clear hB
  have HC : Hid (n ≤ c ∧ n ≤ 9223372036854775807) := ⟨hc, hn⟩
  clear hc hn h0 h1 h6
  have hM : Hid _ := ((Ms.nil w).bornR wz_all.symm 31 (b := w.heap.size) rfl)
  go_enter Tryd.func7, Tryd.ntmps7
  go_wp2_with fail
  refine (IS.out _).mono ?_
  rintro e ux ⟨rfl, hw⟩
  rw [hw]; clear hw ux
  generalize World.alloc _ _ = W at hM ⊢
  generalize hsz : w.heap.size = n0 at hM ⊢
  have HSZ : Hid _ := hsz
  clear hsz
  obtain ⟨bx1, hbx1⟩ : ∃ q, q = W.heap.size := ⟨_, rfl⟩
  replace hM := hid (hM.out.bornR wz_all.symm 31 (b := bx1) hbx1)
  have Hbx1 : Hid _ := hbx1
  clear hbx1
  go_wp2_with fail
  rw [← Hbx1.out]
  generalize World.alloc _ _ = W at hM ⊢
  go_loopg [19] m (fun gg s19 wt => ∃ i : Nat, i ≤ m ∧ m - i ≤ gg ∧ s19 = .int .i64 i ∧ Hid (Ms n0 w wt [(bx1, wl (oi (kind : Nat) q i)), (n0, wl wz)] []))
  case atStart => exact ⟨0, by omega, by omega, rfl, hM⟩
  case round =>
    clear hM
    obtain ⟨i, hi, hgg, rfl, hM⟩ := hrel
    obtain ⟨W, rfl⟩ : ∃ q, q = wr := ⟨_, rfl⟩
    obtain ⟨ci, hci⟩ : ∃ c, c = oi (kind : Nat) q i := ⟨_, rfl⟩
    rw [← hci] at hM
    by_cases hlt : i < m
    · have hi1 : (i : Int) < (n : Int) := by omega
      have hi0 : (0 : Int) ≤ (i : Int) := by omega
      obtain ⟨t, o, k, x, cc, y, hq, hr⟩ := HE.out W hM.out.below i (by omega)
      have RA : Hid _ := hr
      clear hr
      have OK := (Ok1.at hq).1 (HO.out i hlt)
      obtain ⟨cn, hcn⟩ : ∃ c, c = oi (kind : Nat) q (i + 1) := ⟨_, rfl⟩
      have HCN : Hid _ := hcn
      have DO : Hid (∀ w : World, Calls Tryd.prog 15 #[.int .i64 (kind : Nat), .agg (wl ci).toArray, .agg #[.int .i64 o, .int .i64 k, .int .i64 x]] w (DidD w cn cc y)) := fun w => by
        have h := obDo_is (kind := (kind : Nat)) (OB.out i (by omega)) OK.1 w
        rw [OK.2.1, OK.2.2, ← oi_at hq, ← hci, ← hcn] at h
        exact h
      clear OK hcn hci hq
      obtain ⟨bd, hbd⟩ : ∃ q, q = W.heap.size := ⟨_, rfl⟩
      have HBD : Hid _ := hbd
      clear hbd
      go_wp2_with (first
        | (refine lO rfl RA.out rfl (rwD t o k x cc y) ?_)
        | (rw [← HBD.out]
           replace hM := hid (hM.out.born [.int .i64 0, .int .i64 0, .int .i64 0, .int .i64 0, .int .i64 0, .int .i64 0] 53 HBD.out)
           refine sR rfl (hM.out.at 0 rfl) rfl ((rwD 0 0 0 0 0 0).len (rwD t o k x cc y)) (rwD t o k x cc y) ?_
           replace hM := hid (hM.out.put 0 rfl (dl t o k x cc y) ((rwD 0 0 0 0 0 0).len (rwD t o k x cc y)))
           generalize World.setCells _ _ _ _ = W at hM ⊢
           have c2 := hM.out.cell 0 1 rfl rfl
           have c3 := hM.out.cell 0 2 rfl rfl
           have c4 := hM.out.cell 0 3 rfl rfl)
        | (refine lR rfl (hM.out.at 1 rfl) rfl (rwC ci) ?_))
      refine (DO.out _).mono ?_
      rintro e W ⟨rfl, hb⟩
      replace hM := hid (hM.out.later hb)
      clear hb
      clear c2 c3 c4
      obtain ⟨bx5, hbx5⟩ : ∃ q, q = W.heap.size := ⟨_, rfl⟩
      replace hM := hid ((hM.out.bornR wz_all.symm 31 (b := bx5) hbx5).born [.int .i64 0, .int .i64 0] 49 (b := (bx5 + 1)) (by simp [hbx5]))
      have Hbx5 : Hid _ := hbx5
      clear hbx5
      go_wp2_with (first
        | (rw [← Hbx5.out]; refine sR rfl (hM.out.at 1 rfl) rfl ((rwC wz).len (rwC cn)) (rwC cn) ?_
           replace hM := hid (hM.out.put 1 rfl (wl cn) ((rwC wz).len (rwC cn)))
           generalize World.setCells _ _ _ _ = W at hM ⊢)
        | (refine sR rfl (hM.out.at 0 rfl) rfl ((rwA 0 0).len (rwA cc y)) (rwA cc y) ?_
           replace hM := hid (hM.out.put 0 rfl [.int .i64 cc, .int .i64 y] ((rwA 0 0).len (rwA cc y)))
           generalize World.setCells _ _ _ _ = W at hM ⊢
           have c6 := hM.out.cell 0 0 rfl rfl
           have c7 := hM.out.cell 0 1 rfl rfl
           have c8 := hM.out.cell 2 4 rfl rfl
           have c9 := hM.out.cell 2 5 rfl rfl)
        | (refine lR rfl (hM.out.at 1 rfl) rfl (rwC cn) ?_)
        | (refine sR rfl (hM.out.at 3 rfl) rfl ((rwC ci).len (rwC cn)) (rwC cn) ?_
           replace hM := hid (hM.out.put 3 rfl (wl cn) ((rwC ci).len (rwC cn)))
           generalize World.setCells _ _ _ _ = W at hM ⊢))
      clear c6 c7 c8 c9
      go_roundg (m - (i + 1))
      case measure => omega
      case rel => exact ⟨i + 1, by omega, by omega, by have := HC.out; have hw : wrap64 ((i : Int) + 1) = ((i + 1 : Nat) : Int) := (by unfold wrap64; omega); rw [hw], by rw [← HCN.out]; exact hM.out.pick [3, 4]⟩
    · obtain rfl : i = m := by omega
      have hi1 : (i : Int) < (n : Int) := by omega
      have hi0 : (0 : Int) ≤ (i : Int) := by omega
      obtain ⟨t, o, k, x, cc, y, hq, hr⟩ := HE.out W hM.out.below i (by omega)
      have RA : Hid _ := hr
      clear hr
      have NO := fun h => HB.out ((Ok1.at hq).2 h)
      rw [← hci] at NO
      by_cases hR : Rt o k x
      · have O2 : Hid _ := OB.out i (by omega)
        rw [← hci] at O2
        obtain ⟨cn, c2, y2, hcn⟩ : ∃ d c2 y2, odo (kind : Nat) ci o k x = (d, c2, y2) := ⟨_, _, _, rfl⟩
        rw [hcn] at NO
        have DO : Hid (∀ w : World, Calls Tryd.prog 15 #[.int .i64 (kind : Nat), .agg (wl ci).toArray, .agg #[.int .i64 o, .int .i64 k, .int .i64 x]] w (DidD w cn c2 y2)) := fun w => by
          have h := obDo_is (kind := (kind : Nat)) O2.out hR w
          rw [hcn] at h
          exact h
        clear hcn hci hq
        by_cases e1 : c2 = cc
        · subst c2
          have e2 : (y2 == y) = false := beq_eq_false_iff_ne.2 fun h => NO ⟨hR, rfl, h⟩
          clear NO hR
          obtain ⟨bd, hbd⟩ : ∃ q, q = W.heap.size := ⟨_, rfl⟩
          have HBD : Hid _ := hbd
          clear hbd
          go_wp2_with (first
            | (refine lO rfl RA.out rfl (rwD t o k x cc y) ?_)
            | (rw [← HBD.out]
               replace hM := hid (hM.out.born [.int .i64 0, .int .i64 0, .int .i64 0, .int .i64 0, .int .i64 0, .int .i64 0] 53 HBD.out)
               refine sR rfl (hM.out.at 0 rfl) rfl ((rwD 0 0 0 0 0 0).len (rwD t o k x cc y)) (rwD t o k x cc y) ?_
               replace hM := hid (hM.out.put 0 rfl (dl t o k x cc y) ((rwD 0 0 0 0 0 0).len (rwD t o k x cc y)))
               generalize World.setCells _ _ _ _ = W at hM ⊢
               have c2 := hM.out.cell 0 1 rfl rfl
               have c3 := hM.out.cell 0 2 rfl rfl
               have c4 := hM.out.cell 0 3 rfl rfl)
            | (refine lR rfl (hM.out.at 1 rfl) rfl (rwC ci) ?_))
          refine (DO.out _).mono ?_
          rintro e W ⟨rfl, hb⟩
          replace hM := hid (hM.out.later hb)
          clear hb
          clear c2 c3 c4
          obtain ⟨bx5, hbx5⟩ : ∃ q, q = W.heap.size := ⟨_, rfl⟩
          replace hM := hid ((hM.out.bornR wz_all.symm 31 (b := bx5) hbx5).born [.int .i64 0, .int .i64 0] 49 (b := (bx5 + 1)) (by simp [hbx5]))
          have Hbx5 : Hid _ := hbx5
          clear hbx5
          go_wp2_with (first
            | (rw [← Hbx5.out]; refine sR rfl (hM.out.at 1 rfl) rfl ((rwC wz).len (rwC cn)) (rwC cn) ?_
               replace hM := hid (hM.out.put 1 rfl (wl cn) ((rwC wz).len (rwC cn)))
               generalize World.setCells _ _ _ _ = W at hM ⊢)
            | (refine sR rfl (hM.out.at 0 rfl) rfl ((rwA 0 0).len (rwA cc y2)) (rwA cc y2) ?_
               replace hM := hid (hM.out.put 0 rfl [.int .i64 cc, .int .i64 y2] ((rwA 0 0).len (rwA cc y2)))
               generalize World.setCells _ _ _ _ = W at hM ⊢
               have c6 := hM.out.cell 0 0 rfl rfl
               have c7 := hM.out.cell 0 1 rfl rfl
               have c8 := hM.out.cell 2 4 rfl rfl
               have c9 := hM.out.cell 2 5 rfl rfl
               obtain ⟨ba, hba⟩ : ∃ q, q = W.heap.size := ⟨_, rfl⟩
               have HBA : Hid _ := hba
               clear hba)
            | (rw [← HBA.out]
               replace hM := hid (hM.out.born [.int .i64 13, .int .i64 (i : Nat)] 73 HBA.out)
               refine sR rfl (hM.out.at 5 rfl) rfl ((rwC wz).len (rwC wz)) (rwC wz) ?_
               replace hM := hid (hM.out.put 5 rfl (wl wz) ((rwC wz).len (rwC wz)))
               generalize World.setCells _ _ _ _ = W at hM ⊢))
          exact bodyPost_ret (res1s Tryd.results7 (hM.out.at 5 rfl) (rwC wz) (atV ba)) rfl ⟨ba, rfl, by rw [HSZ.out]; exact hM.out.key 0 rfl, (hM.out.at 0 rfl), hM.out.below⟩
        · have e2 : (c2 == cc) = false := beq_eq_false_iff_ne.2 e1
          clear NO hR e1
          obtain ⟨bd, hbd⟩ : ∃ q, q = W.heap.size := ⟨_, rfl⟩
          have HBD : Hid _ := hbd
          clear hbd
          go_wp2_with (first
            | (refine lO rfl RA.out rfl (rwD t o k x cc y) ?_)
            | (rw [← HBD.out]
               replace hM := hid (hM.out.born [.int .i64 0, .int .i64 0, .int .i64 0, .int .i64 0, .int .i64 0, .int .i64 0] 53 HBD.out)
               refine sR rfl (hM.out.at 0 rfl) rfl ((rwD 0 0 0 0 0 0).len (rwD t o k x cc y)) (rwD t o k x cc y) ?_
               replace hM := hid (hM.out.put 0 rfl (dl t o k x cc y) ((rwD 0 0 0 0 0 0).len (rwD t o k x cc y)))
               generalize World.setCells _ _ _ _ = W at hM ⊢
               have c2 := hM.out.cell 0 1 rfl rfl
               have c3 := hM.out.cell 0 2 rfl rfl
               have c4 := hM.out.cell 0 3 rfl rfl)
            | (refine lR rfl (hM.out.at 1 rfl) rfl (rwC ci) ?_))
          refine (DO.out _).mono ?_
          rintro e W ⟨rfl, hb⟩
          replace hM := hid (hM.out.later hb)
          clear hb
          clear c2 c3 c4
          obtain ⟨bx5, hbx5⟩ : ∃ q, q = W.heap.size := ⟨_, rfl⟩
          replace hM := hid ((hM.out.bornR wz_all.symm 31 (b := bx5) hbx5).born [.int .i64 0, .int .i64 0] 49 (b := (bx5 + 1)) (by simp [hbx5]))
          have Hbx5 : Hid _ := hbx5
          clear hbx5
          go_wp2_with (first
            | (rw [← Hbx5.out]; refine sR rfl (hM.out.at 1 rfl) rfl ((rwC wz).len (rwC cn)) (rwC cn) ?_
               replace hM := hid (hM.out.put 1 rfl (wl cn) ((rwC wz).len (rwC cn)))
               generalize World.setCells _ _ _ _ = W at hM ⊢)
            | (refine sR rfl (hM.out.at 0 rfl) rfl ((rwA 0 0).len (rwA c2 y2)) (rwA c2 y2) ?_
               replace hM := hid (hM.out.put 0 rfl [.int .i64 c2, .int .i64 y2] ((rwA 0 0).len (rwA c2 y2)))
               generalize World.setCells _ _ _ _ = W at hM ⊢
               have c6 := hM.out.cell 0 0 rfl rfl
               have c7 := hM.out.cell 0 1 rfl rfl
               have c8 := hM.out.cell 2 4 rfl rfl
               have c9 := hM.out.cell 2 5 rfl rfl
               obtain ⟨ba, hba⟩ : ∃ q, q = W.heap.size := ⟨_, rfl⟩
               have HBA : Hid _ := hba
               clear hba)
            | (rw [← HBA.out]
               replace hM := hid (hM.out.born [.int .i64 13, .int .i64 (i : Nat)] 73 HBA.out)
               refine sR rfl (hM.out.at 5 rfl) rfl ((rwC wz).len (rwC wz)) (rwC wz) ?_
               replace hM := hid (hM.out.put 5 rfl (wl wz) ((rwC wz).len (rwC wz)))
               generalize World.setCells _ _ _ _ = W at hM ⊢))
          exact bodyPost_ret (res1s Tryd.results7 (hM.out.at 5 rfl) (rwC wz) (atV ba)) rfl ⟨ba, rfl, by rw [HSZ.out]; exact hM.out.key 0 rfl, (hM.out.at 0 rfl), hM.out.below⟩
      · have DO : Hid (∀ w : World, _) := obDo_no (kind := (kind : Nat)) (o := o) (k := k) (x := x) (c := ci) (fun h => hR h.1)
        clear NO hR hci hq
        obtain ⟨bd, hbd⟩ : ∃ q, q = W.heap.size := ⟨_, rfl⟩
        have HBD : Hid _ := hbd
        clear hbd
        go_wp2_with (first
          | (refine lO rfl RA.out rfl (rwD t o k x cc y) ?_)
          | (rw [← HBD.out]
             replace hM := hid (hM.out.born [.int .i64 0, .int .i64 0, .int .i64 0, .int .i64 0, .int .i64 0, .int .i64 0] 53 HBD.out)
             refine sR rfl (hM.out.at 0 rfl) rfl ((rwD 0 0 0 0 0 0).len (rwD t o k x cc y)) (rwD t o k x cc y) ?_
             replace hM := hid (hM.out.put 0 rfl (dl t o k x cc y) ((rwD 0 0 0 0 0 0).len (rwD t o k x cc y)))
             generalize World.setCells _ _ _ _ = W at hM ⊢
             have c2 := hM.out.cell 0 1 rfl rfl
             have c3 := hM.out.cell 0 2 rfl rfl
             have c4 := hM.out.cell 0 3 rfl rfl)
          | (refine lR rfl (hM.out.at 1 rfl) rfl (rwC ci) ?_))
        refine (DO.out _).mono ?_
        rintro e W ⟨rfl, hb⟩
        replace hM := hid (hM.out.later hb)
        clear hb
        clear c2 c3 c4
        obtain ⟨bx5, hbx5⟩ : ∃ q, q = W.heap.size := ⟨_, rfl⟩
        replace hM := hid ((hM.out.bornR wz_all.symm 31 (b := bx5) hbx5).born [.int .i64 0, .int .i64 0] 49 (b := (bx5 + 1)) (by simp [hbx5]))
        have Hbx5 : Hid _ := hbx5
        clear hbx5
        go_wp2_with (first
          | (rw [← Hbx5.out]; refine sR rfl (hM.out.at 1 rfl) rfl ((rwC wz).len (rwC wz)) (rwC wz) ?_
             replace hM := hid (hM.out.put 1 rfl (wl wz) ((rwC wz).len (rwC wz)))
             generalize World.setCells _ _ _ _ = W at hM ⊢)
          | (refine sR rfl (hM.out.at 0 rfl) rfl ((rwA 0 0).len (rwA 0 0)) (rwA 0 0) ?_
             replace hM := hid (hM.out.put 0 rfl [.int .i64 0, .int .i64 0] ((rwA 0 0).len (rwA 0 0)))
             generalize World.setCells _ _ _ _ = W at hM ⊢
             have c6 := hM.out.cell 0 0 rfl rfl
             have c7 := hM.out.cell 0 1 rfl rfl
             have c8 := hM.out.cell 2 4 rfl rfl
             have c9 := hM.out.cell 2 5 rfl rfl
             obtain ⟨ba, hba⟩ : ∃ q, q = W.heap.size := ⟨_, rfl⟩
             have HBA : Hid _ := hba
             clear hba)
          | (rw [← HBA.out]
             replace hM := hid (hM.out.born [.int .i64 13, .int .i64 (i : Nat)] 73 HBA.out)
             refine sR rfl (hM.out.at 5 rfl) rfl ((rwC wz).len (rwC wz)) (rwC wz) ?_
             replace hM := hid (hM.out.put 5 rfl (wl wz) ((rwC wz).len (rwC wz)))
             generalize World.setCells _ _ _ _ = W at hM ⊢))
        exact bodyPost_ret (res1s Tryd.results7 (hM.out.at 5 rfl) (rwC wz) (atV ba)) rfl ⟨ba, rfl, by rw [HSZ.out]; exact hM.out.key 0 rfl, (hM.out.at 0 rfl), hM.out.below⟩
theorem legal_yes {kind : Nat} (h1 : 1 ≤ kind) (h6 : kind ≤ 6) {v : Value} {n : Nat} {q : Nat → DD} {w : World} (D : Dq w v n q) (hO : ∀ j, j < n → Ok1 (kind : Nat) q j) :
    Calls Tryd.prog 7 #[.int .i64 (kind : Nat), v] w (LegalY w (oi (kind : Nat) q n)) := by
  rcases id D with ⟨h0, a, c, hv, ha⟩ | ⟨b, off, c, hv, h0, hc, hm, _⟩
  · subst hv h0
    cases a with
    | none => obtain rfl := ha rfl; exact legal_nil h1 h6 w
    | some a => exact legal_none h1 h6 a c w
  · subst hv; exact legal_some h1 h6 h0 hc hm hO w D
theorem legal_not {kind : Nat} (h1 : 1 ≤ kind) (h6 : kind ≤ 6) {v : Value} {n m : Nat} {q : Nat → DD} {w : World} (D : Dq w v n q) (hm : m < n) (hO : ∀ j, j < m → Ok1 (kind : Nat) q j) (hB : ¬ Ok1 (kind : Nat) q m) :
    Calls Tryd.prog 7 #[.int .i64 (kind : Nat), v] w (LegalN w m) := by
  rcases id D with ⟨h0, a, c, hv, ha⟩ | ⟨b, off, c, hv, h0, hc, hn, _⟩
  · omega
  · subst hv; exact legal_bad h1 h6 h0 hc hn hm hO hB w D
end Go.Proofs.YtaipanjigindbaaDoor.Tab
namespace Go.Proofs.YtaipanjigindbaaDoor
set_option maxRecDepth 20000
open Go.RowKit Go.Extern.Stop Go.Stop Go.Extern

set_option maxHeartbeats 4000000 in
theorem as_at (n : Int) (b : Nat) (t : Addr) (old : Value) (w : World) (hg : w.cell? ⟨0, 0, none⟩ = some (.iface 159 (.agg #[.pointer (some ⟨1, 33, none⟩)]))) (ht0 : w.cell? t = some old) (hf0 : w.frozen? t = false) (hb0 : w.cell? ⟨b, 0, none⟩ = some (.int .i64 n)) :
    Calls Tryd.prog 44 #[atV b, .iface 122 (.pointer (some t))] w fun ev w' => ev = .returned (.bool true) ∧ w' = ((((w.alloc (.cells #[.pointer (some t)] 122)).alloc (.cells #[.pointer (some ⟨1, 122, none⟩), .pointer (some ⟨w.heap.size, 0, none⟩), .int .u64 150] 135)).alloc (.cells #[.pointer (some ⟨1, 122, none⟩), .pointer (some ⟨w.heap.size, 0, none⟩), .int .u64 150] 135)).alloc (.cells #[.int .i64 n] 24)).setCell t (.int .i64 n) := by
  have hF0 := @run_callFunc_extern Tryd.prog 63 _ (fun args => ReflectliteValue.unpack (args.getD 0 (.tuple #[]))) Tryd.func63 (by kernel_rfl) (by kernel_rfl) (by kernel_rfl) (by kernel_rfl)
  have hF1 := @run_callFunc_extern Tryd.prog 64 _ (ReflectliteValue.methodAny (ReflectliteValue.valueError "reflectlite.Value.Type" 0) (fun t _ _ _ => ReflectliteType.toType t)) Tryd.func64 (by kernel_rfl) (by kernel_rfl) (by kernel_rfl) (by kernel_rfl)
  have hF2 := @run_callFunc_extern Tryd.prog 65 _ (ReflectliteValue.method (ReflectliteValue.valueError "reflectlite.Value.IsNil" 0) ReflectliteValue.isNil) Tryd.func65 (by kernel_rfl) (by kernel_rfl) (by kernel_rfl) (by kernel_rfl)
  have hF3 := @run_callFunc_extern Tryd.prog 113 _ (ReflectliteType.abiMethod fun t => do pure (.int .u8 (← Rtype.kind t))) Tryd.func113 (by kernel_rfl) (by kernel_rfl) (by kernel_rfl) (by kernel_rfl)
  have hF4 := @run_callFunc_extern Tryd.prog 126 _ (ReflectliteType.method ReflectliteType.elem) Tryd.func126 (by kernel_rfl) (by kernel_rfl) (by kernel_rfl) (by kernel_rfl)
  have hF5 := @run_callFunc_extern Tryd.prog 127 _ (ReflectliteType.relation "Implements" ReflectliteType.implements_) Tryd.func127 (by kernel_rfl) (by kernel_rfl) (by kernel_rfl) (by kernel_rfl)
  have hF6 := @run_callFunc_extern Tryd.prog 83 _ ReflectliteType.typeOf Tryd.func83 (by kernel_rfl) (by kernel_rfl) (by kernel_rfl) (by kernel_rfl)
  have hF7 := @run_callFunc_extern Tryd.prog 124 _ (ReflectliteType.relation "AssignableTo" ReflectliteType.assignableTo) Tryd.func124 (by kernel_rfl) (by kernel_rfl) (by kernel_rfl) (by kernel_rfl)
  have hF8 := @run_callFunc_extern Tryd.prog 84 _ (ReflectliteValue.method (ReflectliteValue.valueError "reflectlite.Value.Elem" 0) ReflectliteValue.elem) Tryd.func84 (by kernel_rfl) (by kernel_rfl) (by kernel_rfl) (by kernel_rfl)
  have hF9 := @run_callFunc_extern Tryd.prog 85 _ ReflectliteValue.set Tryd.func85 (by kernel_rfl) (by kernel_rfl) (by kernel_rfl) (by kernel_rfl)
  have tO := As.typeOfE
  have tA := At.typeOf
  have aA := At.assignable
  have uA := At.unwraps
  have lA := At.lacksAs
  have mU := At.methodUnwrap
  have mA := As.methodAssignableTo
  have aE := As.assignableE
  have vE := As.valueOfE
  have vP := As.valueOfP
  have tP := As.typeP
  have mK := As.methodKind
  have mE := As.methodElem
  have mI := As.methodImplements
  have kP := As.kindP
  have kE := As.kindE
  have eP := As.elemP
  have iE := As.implementsE
  have n8 := As.isNilP ⟨w.heap.size, 0, none⟩ t ((w.alloc (.cells #[.pointer (some t)] 122)).alloc (.cells #[.pointer (some ⟨1, 122, none⟩), .pointer (some ⟨w.heap.size, 0, none⟩), .int .u64 150] 135)) (by simp)
  have hlt : 0 < w.heap.size := by
    rcases Nat.lt_or_ge 0 w.heap.size with h | h
    · exact h
    · simp [World.cell?, Array.getElem?_eq_none h] at hg
  have hg2 : ((w.alloc (.cells #[.pointer (some t)] 122)).alloc (.cells #[.pointer (some ⟨1, 122, none⟩), .pointer (some ⟨w.heap.size, 0, none⟩), .int .u64 150] 135)).cell? ⟨0, 0, none⟩ = some (.iface 159 (.agg #[.pointer (some ⟨1, 33, none⟩)])) := by
    rw [World.cell?_alloc_lt _ _ ⟨0, 0, none⟩ (by simp <;> omega), World.cell?_alloc_lt _ _ ⟨0, 0, none⟩ hlt]; exact hg
  have htl : t.block < w.heap.size := by
    rcases Nat.lt_or_ge t.block w.heap.size with h | h
    · exact h
    · simp [World.cell?, Array.getElem?_eq_none h] at ht0
  have el := As.elemVP ⟨w.heap.size, 0, none⟩ t (((w.alloc (.cells #[.pointer (some t)] 122)).alloc (.cells #[.pointer (some ⟨1, 122, none⟩), .pointer (some ⟨w.heap.size, 0, none⟩), .int .u64 150] 135)).alloc (.cells #[.pointer (some ⟨1, 122, none⟩), .pointer (some ⟨w.heap.size, 0, none⟩), .int .u64 150] 135)) (by rw [World.cell?_alloc_lt _ _ ⟨w.heap.size, 0, none⟩ (by simp; omega)]; simp)
  have st := As.setE t ⟨w.heap.size + 1 + 1 + 1, 0, none⟩ n old ((((w.alloc (.cells #[.pointer (some t)] 122)).alloc (.cells #[.pointer (some ⟨1, 122, none⟩), .pointer (some ⟨w.heap.size, 0, none⟩), .int .u64 150] 135)).alloc (.cells #[.pointer (some ⟨1, 122, none⟩), .pointer (some ⟨w.heap.size, 0, none⟩), .int .u64 150] 135)).alloc (.cells #[.int .i64 n] 24))
    (by rw [World.cell?_alloc_at _ _ _ _ (by simp)]; rfl)
    (by rw [World.cell?_alloc_lt _ _ t (by simp; omega), World.cell?_alloc_lt _ _ t (by simp; omega), World.cell?_alloc_lt _ _ t (by simp; omega), World.cell?_alloc_lt _ _ t htl]; exact ht0)
    (by rw [World.frozen?_alloc_old _ _ t (by simp; omega), World.frozen?_alloc_old _ _ t (by simp; omega), World.frozen?_alloc_old _ _ t (by simp; omega), World.frozen?_alloc_old _ _ t (Nat.ne_of_lt htl)]; exact hf0)
  have hbl : b < w.heap.size := by
    rcases Nat.lt_or_ge b w.heap.size with h | h
    · exact h
    · simp [World.cell?, Array.getElem?_eq_none h] at hb0
  have UW := At.unwrap n b (((w.alloc (.cells #[.pointer (some t)] 122)).alloc (.cells #[.pointer (some ⟨1, 122, none⟩), .pointer (some ⟨w.heap.size, 0, none⟩), .int .u64 150] 135)).alloc (.cells #[.pointer (some ⟨1, 122, none⟩), .pointer (some ⟨w.heap.size, 0, none⟩), .int .u64 150] 135))
    (by rw [World.cell?_alloc_lt _ _ ⟨b, 0, none⟩ (by simp; omega), World.cell?_alloc_lt _ _ ⟨b, 0, none⟩ (by simp; omega), World.cell?_alloc_lt _ _ ⟨b, 0, none⟩ hbl]; exact hb0)
  unfold atV
  go_enter Tryd.func44, Tryd.ntmps44
  go_wp2
  refine wp_loop_rounds 2 ?_
  rw [rounds_succ]
  go_wp2_with fail
  refine UW.mono ?_
  rintro e w' ⟨rfl, rfl⟩
  go_wp2_with fail
  rw [rounds_succ]
  go_wp2
  go_ret
  exact ⟨rfl, rfl⟩
end Go.Proofs.YtaipanjigindbaaDoor
namespace Go.Proofs.YtaipanjigindbaaDoor
set_option maxRecDepth 20000
open Go.RowKit
theorem HandleAt.below {w a : World} (h : HandleAt w) (g : Below w.heap.size w a) : HandleAt a := by
  have h' : w.cell? ⟨0, 0, none⟩ = _ := h
  exact (g.cell (p := ⟨0, 0, none⟩) (size_of_cell' h')).trans h'
end Go.Proofs.YtaipanjigindbaaDoor
namespace Go.Proofs.YtaipanjigindbaaDoor.Tab
set_option maxRecDepth 20000
open Go.RowKit
set_option linter.unusedVariables false

theorem as_at' (n : Int) (b : Nat) (t : Addr) (old : Value) (w : World) (hg : HandleAt w) (ht0 : w.cell? t = some old) (hf0 : w.frozen? t = false) (hb0 : w.cell? ⟨b, 0, none⟩ = some (.int .i64 n)) :
    Calls Tryd.prog 44 #[atV b, .iface 122 (.pointer (some t))] w fun e w' => e = .returned (.bool true) ∧ ∃ W, Gr w W ∧ w' = W.setCell t (.int .i64 n) :=
  (as_at n b t old w hg ht0 hf0 hb0).mono fun _ _ ⟨he, hw⟩ => ⟨he, _, ((((Gr.refl w).alloc _ _).alloc _ _).alloc _ _).alloc _ _, hw⟩

theorem tell_at (n : Int) (b : Nat) (w : World) (hH : HandleAt w) (hb0 : w.cell? ⟨b, 0, none⟩ = some (.int .i64 n)) :
    Calls Tryd.prog 32 #[atV b] w fun e w' => e = .returned (.int .i64 n) ∧ Gr w w' := by
  have H1 : Hid (HandleAt (w.alloc (.cells #[.int .i64 0] 24))) := hH.later ((Gr.refl w).alloc _ _)
  have C1 : Hid ((w.alloc (.cells #[.int .i64 0] 24)).cell? ⟨b, 0, none⟩ = some (.int .i64 n)) := by
    rw [World.cell?_alloc_lt _ _ ⟨b, 0, none⟩ (size_of_cell' hb0)]; exact hb0
  clear hH hb0
  unfold atV
  go_enter Tryd.func32, Tryd.ntmps32
  go_wp2_with fail
  refine (as_at' n b ⟨w.heap.size, 0, none⟩ (.int .i64 0) _ H1.out (by simp) ((frozen?_alloc_cells _ _ _ _).trans (frozen_past w (Nat.le_refl _))) C1.out).mono ?_
  rintro e w' ⟨rfl, W, hW, rfl⟩
  have hc : (W.setCell ⟨w.heap.size, 0, none⟩ (.int .i64 n)).cell? ⟨w.heap.size, 0, none⟩ = some (.int .i64 n) := by
    refine World.cell?_setCell_same _ _ _ (u := .int .i64 0) ?_
    rw [hW.cell (by simp)]
    simp
  have hG : Gr w (W.setCell ⟨w.heap.size, 0, none⟩ (.int .i64 n)) := (((Gr.refl w).alloc _ _).trans hW).setCell (Nat.le_refl _) _
  generalize W.setCell ⟨w.heap.size, 0, none⟩ (.int .i64 n) = W2 at hc hG
  clear hW H1 C1
  go_wp2
  go_ret
  exact ⟨rfl, hG⟩

set_option maxHeartbeats 2000000 in
theorem place_at (ev p : Int) (b : Nat) (w : World) (hH : HandleAt w) (hB : Bo w b [.int .i64 ev, .int .i64 p]) :
    Calls Tryd.prog 24 #[atV b] w (fun e w' => e = .returned (.tuple #[.int .i64 ev, .int .i64 p]) ∧ Below w.heap.size w w') := by
  have AT : Hid _ := hid hB
  have TL : Hid _ := hid (tell_at ev b w hH (hB.at 0 rfl))
  clear hB hH
  have tA := At.isAt
  unfold atV at *
  have hM : Hid _ := (Ms.nil w)
  go_enter Tryd.func24, Tryd.ntmps24
  go_wp2_with fail
  refine TL.out.mono ?_
  rintro e W ⟨rfl, hg⟩
  have hb := hg.below
  clear hg TL
  replace hM := hid (hM.out.later hb)
  clear hb
  generalize hsz : w.heap.size = n at hM ⊢
  clear hsz
  go_wp2_with fail
  refine wp_loop_rounds 1 ?_
  rw [rounds_succ]
  go_wp2_with fail
  replace hM := hid (hM.out.drew)
  refine wp_region_held_drew (S := fun w' => Bo w' b [.int .i64 ev, .int .i64 p]) (by kernel_rfl) (AT.out.later hM.out.below) (fun hH => ?_)
  generalize World.drew _ = W at hM hH  ⊢
  refine tk 0 rfl hH ?_
  simp only [Act.put, p1, p2, p3]
  refine tk 1 rfl hH ?_
  simp only [Act.put, p1, p2, p3]
  refine tk 2 rfl hH ?_
  simp only [Act.put, p1, p2, p3]
  refine tk 3 rfl hH ?_
  simp only [Act.put, p1, p2, p3]
  refine tk 4 rfl hH ?_ (by intro w h; have c0 := h.at 1 rfl; clear h; go_simp; try with_reducible rfl)
  simp only [Act.put, p1, p2, p3]
  refine tk 5 rfl hH ?_
  simp only [Act.put, p1, p2, p3]
  refine tk 6 rfl hH ?_
  simp only [Act.put, p1, p2, p3]
  refine wpAnyH_done (by kernel_rfl) ?_ _
  go_wp2
  go_ret2
  exact ⟨rfl, hM.out.below⟩
set_option maxHeartbeats 2000000 in
theorem placed_nil  (w : World) :
    Calls Tryd.prog 8 #[.nilIface, .agg #[.int .i64 0, .int .i64 (-1)]] w (fun e w' => e = .returned (.bool true) ∧ Below w.heap.size w w') := by
  have PL : Hid (∀ w : World, _) := place_nil
  have hM : Hid _ := ((Ms.nil w).born [.int .i64 0, .int .i64 (-1)] 26 (b := w.heap.size) rfl)
  go_enter Tryd.func8, Tryd.ntmps8
  go_wp2_with fail
  refine (PL.out _).mono ?_
  rintro e ux ⟨rfl, hw⟩
  rw [hw]; clear hw ux
  have c1 := hM.out.cell 0 0 rfl rfl
  have c2 := hM.out.cell 0 1 rfl rfl
  go_wp2
  go_ret
  exact ⟨rfl, hM.out.below⟩
set_option maxHeartbeats 2000000 in
theorem placed_errno  (ev : Int) (w : World) (hH : HandleAt w) :
    Calls Tryd.prog 8 #[.iface 24 (.int .i64 ev), .agg #[.int .i64 ev, .int .i64 (-1)]] w (fun e w' => e = .returned (.bool true) ∧ Below w.heap.size w w') := by
  have HH : Hid _ := hid hH
  clear hH
  have PL : Hid (∀ w : World, HandleAt w → _) := place_errno ev
  have hM : Hid _ := ((Ms.nil w).born [.int .i64 ev, .int .i64 (-1)] 26 (b := w.heap.size) rfl)
  go_enter Tryd.func8, Tryd.ntmps8
  go_wp2_with fail
  refine (PL.out _ (HH.out.below hM.out.below)).mono ?_
  rintro e W ⟨rfl, hg⟩
  have hb := hg.below
  clear hg
  replace hM := hid (hM.out.later hb)
  clear hb
  have c1 := hM.out.cell 0 0 rfl rfl
  have c2 := hM.out.cell 0 1 rfl rfl
  go_wp2
  go_ret
  exact ⟨rfl, hM.out.below⟩
set_option maxHeartbeats 2000000 in
theorem placed_at  (ev p : Int) (b : Nat) (w : World) (hH : HandleAt w) (hB : Bo w b [.int .i64 ev, .int .i64 p]) :
    Calls Tryd.prog 8 #[atV b, .agg #[.int .i64 ev, .int .i64 p]] w (fun e w' => e = .returned (.bool true) ∧ Below w.heap.size w w') := by
  have HH : Hid _ := hid hH
  clear hH
  have AT : Hid _ := hid hB
  clear hB
  have PL : Hid (∀ w : World, HandleAt w → _) := place_at ev p b
  have hM : Hid _ := ((Ms.nil w).born [.int .i64 ev, .int .i64 p] 26 (b := w.heap.size) rfl)
  go_enter Tryd.func8, Tryd.ntmps8
  go_wp2_with fail
  refine (PL.out _ (HH.out.below hM.out.below) (AT.out.later hM.out.below)).mono ?_
  rintro e W ⟨rfl, hb⟩
  replace hM := hid (hM.out.later hb)
  clear hb
  have c1 := hM.out.cell 0 0 rfl rfl
  have c2 := hM.out.cell 0 1 rfl rfl
  go_wp2
  go_ret
  exact ⟨rfl, hM.out.below⟩
end Go.Proofs.YtaipanjigindbaaDoor.Tab
namespace Go.Proofs.YtaipanjigindbaaDoor.Tab
set_option maxRecDepth 20000
open Go.RowKit
set_option linter.unusedVariables false

theorem cells_desc : Tryd.prog.underlying 31 = some (.array 17 29) := by kernel_rfl
theorem wpart0 (c : Nat → Nat) (w : World) : (part 29 (wl c).toArray 0).run Tryd.prog w = .ok (.int .u64 (c 0 : Nat)) w := by kernel_rfl
theorem wpart1 (c : Nat → Nat) (w : World) : (part 29 (wl c).toArray 1).run Tryd.prog w = .ok (.int .u64 (c 1 : Nat)) w := by kernel_rfl
theorem wpart2 (c : Nat → Nat) (w : World) : (part 29 (wl c).toArray 2).run Tryd.prog w = .ok (.int .u64 (c 2 : Nat)) w := by kernel_rfl
theorem wpart3 (c : Nat → Nat) (w : World) : (part 29 (wl c).toArray 3).run Tryd.prog w = .ok (.int .u64 (c 3 : Nat)) w := by kernel_rfl
theorem wpart4 (c : Nat → Nat) (w : World) : (part 29 (wl c).toArray 4).run Tryd.prog w = .ok (.int .u64 (c 4 : Nat)) w := by kernel_rfl
theorem wpart5 (c : Nat → Nat) (w : World) : (part 29 (wl c).toArray 5).run Tryd.prog w = .ok (.int .u64 (c 5 : Nat)) w := by kernel_rfl
theorem wpart6 (c : Nat → Nat) (w : World) : (part 29 (wl c).toArray 6).run Tryd.prog w = .ok (.int .u64 (c 6 : Nat)) w := by kernel_rfl
theorem wpart7 (c : Nat → Nat) (w : World) : (part 29 (wl c).toArray 7).run Tryd.prog w = .ok (.int .u64 (c 7 : Nat)) w := by kernel_rfl
theorem wpart8 (c : Nat → Nat) (w : World) : (part 29 (wl c).toArray 8).run Tryd.prog w = .ok (.int .u64 (c 8 : Nat)) w := by kernel_rfl
theorem wpart9 (c : Nat → Nat) (w : World) : (part 29 (wl c).toArray 9).run Tryd.prog w = .ok (.int .u64 (c 9 : Nat)) w := by kernel_rfl
theorem wpart10 (c : Nat → Nat) (w : World) : (part 29 (wl c).toArray 10).run Tryd.prog w = .ok (.int .u64 (c 10 : Nat)) w := by kernel_rfl
theorem wpart11 (c : Nat → Nat) (w : World) : (part 29 (wl c).toArray 11).run Tryd.prog w = .ok (.int .u64 (c 11 : Nat)) w := by kernel_rfl
theorem wpart12 (c : Nat → Nat) (w : World) : (part 29 (wl c).toArray 12).run Tryd.prog w = .ok (.int .u64 (c 12 : Nat)) w := by kernel_rfl
theorem wpart13 (c : Nat → Nat) (w : World) : (part 29 (wl c).toArray 13).run Tryd.prog w = .ok (.int .u64 (c 13 : Nat)) w := by kernel_rfl
theorem wpart14 (c : Nat → Nat) (w : World) : (part 29 (wl c).toArray 14).run Tryd.prog w = .ok (.int .u64 (c 14 : Nat)) w := by kernel_rfl
theorem wpart15 (c : Nat → Nat) (w : World) : (part 29 (wl c).toArray 15).run Tryd.prog w = .ok (.int .u64 (c 15 : Nat)) w := by kernel_rfl
theorem wpart16 (c : Nat → Nat) (w : World) : (part 29 (wl c).toArray 16).run Tryd.prog w = .ok (.int .u64 (c 16 : Nat)) w := by kernel_rfl
theorem word_equal (x : Int) (w : World) : (Op.equalIn 9999 29 (.int .u64 x) (.int .u64 x)).run Tryd.prog w = .ok true w := by
  go_simp
theorem cells_equal (c : Nat → Nat) (w : World) : (Op.equalIn 10000 31 (.agg (wl c).toArray) (.agg (wl c).toArray)).run Tryd.prog w = .ok true w := by
  have hc : Tryd.prog.cellsOf 29 = 1 := by kernel_rfl
  cases hi : Tryd.prog.info? 29 with
  | none => simp [Program.cellsOf, hi] at hc
  | some i =>
    have h := run_equalIn_array (w := w) 9999 (wl c).toArray (wl c).toArray cells_desc hi
    rw [h, hc]
    have hr : List.range 17 = [0, 1, 2, 3, 4, 5, 6, 7, 8, 9, 10, 11, 12, 13, 14, 15, 16] := by decide
    rw [hr]
    simp [Op.eqItems, wpart0 c w, wpart1 c w, wpart2 c w, wpart3 c w, wpart4 c w, wpart5 c w, wpart6 c w, wpart7 c w, wpart8 c w, wpart9 c w, wpart10 c w, wpart11 c w, wpart12 c w, wpart13 c w, wpart14 c w, wpart15 c w, wpart16 c w, word_equal]
theorem cells_zero (w : World) : (Op.equalIn 10000 31 (.agg (wl wz).toArray) (.agg #[.int .u64 0, .int .u64 0, .int .u64 0, .int .u64 0, .int .u64 0, .int .u64 0, .int .u64 0, .int .u64 0, .int .u64 0, .int .u64 0, .int .u64 0, .int .u64 0, .int .u64 0, .int .u64 0, .int .u64 0, .int .u64 0, .int .u64 0])).run Tryd.prog w = .ok true w := cells_equal wz w
theorem afield0 (c y : Int) (w : World) : (Instr.field 49 (.agg #[.int .i64 c, .int .i64 y]) 0).run Tryd.prog w = .ok (.int .i64 c) w := by kernel_rfl
theorem afield1 (c y : Int) (w : World) : (Instr.field 49 (.agg #[.int .i64 c, .int .i64 y]) 1).run Tryd.prog w = .ok (.int .i64 y) w := by kernel_rfl
end Go.Proofs.YtaipanjigindbaaDoor.Tab
namespace Go.Proofs.YtaipanjigindbaaDoor.Tab
set_option maxRecDepth 20000
open Go.RowKit
set_option linter.unusedVariables false

theorem pick_md (a : Int) (n : Nat) (h0 : 0 < n) (h : n < 4611686018427387904) : ∃ r : Nat, r < n ∧ wrap64 ((IntKind.u64.wrap a).tmod (IntKind.u64.wrap n)) = (r : Nat) := by
  rw [IntKind.wrap_u64, IntKind.wrap_u64]
  have e : (n : Int) % 18446744073709551616 = n := by omega
  rw [e, Int.tmod_eq_emod_of_nonneg (by omega)]
  have h1 : 0 ≤ a % 18446744073709551616 % (n : Int) := Int.emod_nonneg _ (by omega)
  have h2 : a % 18446744073709551616 % (n : Int) < n := Int.emod_lt_of_pos _ (by omega)
  refine ⟨(a % 18446744073709551616 % (n : Int)).toNat, by omega, ?_⟩
  generalize a % 18446744073709551616 % (n : Int) = x at *
  unfold wrap64
  omega
theorem pick_any (a : Int) (n : Nat) (h0 : 0 < n) (hn : n ≤ 1000000) : ∃ r : Nat, r < n ∧ ∀ w : World, Calls Tryd.prog 16 #[.int .i64 a, .int .i64 (n : Nat)] w fun e w' => e = .returned (.int .i64 (r : Nat)) ∧ w' = w := by
  obtain ⟨r, hr, he⟩ := pick_md a n h0 (by omega)
  refine ⟨r, hr, fun w => ?_⟩
  have HE : Hid _ := he
  have n0 : ¬ ((n : Int) = 0) := by omega
  have n1 : (0 : Int) < (n : Int) := by omega
  have n2 : IntKind.u64.wrap (n : Int) = (n : Int) := by rw [IntKind.wrap_u64]; omega
  rw [n2] at HE
  clear he h0 hn
  go_enter Tryd.func16, Tryd.ntmps16
  go_wp2
  go_ret
  exact ⟨ret_int HE.out, rfl⟩
theorem kindOf_any (a : Int) : ∃ r : Nat, 1 ≤ r ∧ r ≤ 6 ∧ ∀ w : World, Calls Tryd.prog 14 #[.int .i64 a] w fun e w' => e = .returned (.int .i64 (r : Nat)) ∧ w' = w := by
  obtain ⟨r, hr, hp⟩ := pick_any a 6 (by decide) (by decide)
  refine ⟨r + 1, by omega, by omega, fun w => ?_⟩
  have P : Hid _ := hp
  clear hp
  have hw : IntKind.i64.wrap (1 + (r : Int)) = 1 + (r : Int) := by rw [IntKind.wrap_i64]; omega
  go_enter Tryd.func14, Tryd.ntmps14
  go_wp2_with fail
  refine (P.out _).mono ?_
  rintro e w1 ⟨rfl, rfl⟩
  go_wp2
  go_ret
  refine ⟨?_, rfl⟩
  have e : ((r + 1 : Nat) : Int) = 1 + (r : Int) := by omega
  rw [e, ← hw]
  rfl
theorem kput_is (x : Int) (w : World) : Calls Tryd.prog 30 #[.int .i64 x] w fun e w' => e = .returned (.agg #[.int .i64 1, .int .i64 0, .int .i64 x]) ∧ Below w.heap.size w w' := by
  go_enter Tryd.func30, Tryd.ntmps30
  go_wp2
  exact bodyPost_ret (v := .agg #[.int .i64 1, .int .i64 0, .int .i64 x]) (by simp [results, Tryd.results30, go_sem]) rfl ⟨rfl, (Below.refl _ w).alloc (Nat.le_refl _) _⟩
set_option maxHeartbeats 2000000 in
theorem made0_is  (w : World) :
    Calls Tryd.prog 31 #[.int .i64 1, .slice none 0 0] w (fun e w' => e = .returned (.agg (wl wz).toArray) ∧ Below w.heap.size w w') := by
  have hM : Hid _ := (((Ms.nil w).bornR wz_all.symm 31 (b := w.heap.size) rfl).bornR wz_all.symm 31 (b := w.heap.size + 1) (by simp))
  go_enter Tryd.func31, Tryd.ntmps31
  go_wp2_with fail
  generalize World.alloc _ _ = W at hM ⊢
  generalize hsz : w.heap.size = n at hM ⊢
  clear hsz
  go_loopg [17] 0 (fun gg s17 wt => wt = W ∧ s17 = .int .i64 0)
  case atStart => exact ⟨rfl, rfl⟩
  case round =>
    obtain ⟨hw, rfl⟩ := hrel
    rw [hw]; clear hw wr
    go_wp2_with (first
      | (refine lR rfl (hM.out.at 0 rfl) rfl (rwC wz) ?_)
      | (refine sR rfl (hM.out.at 1 rfl) rfl ((rwC wz).len (rwC wz)) (rwC wz) ?_
         replace hM := hid (hM.out.put 1 rfl (wl wz) ((rwC wz).len (rwC wz)))
         generalize World.setCells _ _ _ _ = W at hM ⊢))
    exact bodyPost_ret (res1 Tryd.results31 (hM.out.at 1 rfl) (rwC wz)) rfl ⟨rfl, hM.out.below⟩
/-- The two deeds, the two events of judged. -/
def qj : Nat → DD := fun j => if j = 0 then ⟨0, 1, 0, 3, 1, 0⟩ else ⟨1, 2, 0, 0, 1, 3⟩
def qk : Nat → DD := fun _ => ⟨1, 2, 0, 0, 1, 3⟩
def hj : Nat → EV := fun j => if j = 0 then ⟨1, 0, 1, 0, 3, 0, 0, 0, 0⟩ else ⟨2, 0, 1, 0, 3, 1, 0, 1, 0⟩
def dj : List Value := [.int .i64 0, .int .i64 1, .int .i64 0, .int .i64 3, .int .i64 1, .int .i64 0, .int .i64 1, .int .i64 2, .int .i64 0, .int .i64 0, .int .i64 1, .int .i64 3]
def ej : List Value := [.int .i64 1, .int .i64 0, .int .i64 1, .int .i64 0, .int .i64 3, .int .i64 0, .int .i64 0, .int .i64 0, .int .i64 0, .int .i64 2, .int .i64 0, .int .i64 1, .int .i64 0, .int .i64 3, .int .i64 1, .int .i64 0, .int .i64 1, .int .i64 0]
theorem Bo.part {w : World} {b : Nat} {cs ds : List Value} (h : Bo w b cs) (o : Nat) (hd : ∀ j v, ds[j]? = some v → cs[o + j]? = some v) : w.rangeAt b o ds := fun j v hv => h.cell (o + j) v (hd j v hv)
theorem get_of {cs ds : List Value} {o : Nat} (h : ∀ j, j < ds.length → cs[o + j]? = ds[j]?) : ∀ j v, ds[j]? = some v → cs[o + j]? = some v := fun j v hv => by rw [h j (List.getElem?_eq_some_iff.1 hv).1]; exact hv
theorem lt6 {P : Nat → Prop} (h0 : P 0) (h1 : P 1) (h2 : P 2) (h3 : P 3) (h4 : P 4) (h5 : P 5) : ∀ j, j < 6 → P j
  | 0, _ => h0 | 1, _ => h1 | 2, _ => h2 | 3, _ => h3 | 4, _ => h4 | 5, _ => h5
  | j + 6, h => by omega
theorem lt9 {P : Nat → Prop} (h0 : P 0) (h1 : P 1) (h2 : P 2) (h3 : P 3) (h4 : P 4) (h5 : P 5) (h6 : P 6) (h7 : P 7) (h8 : P 8) : ∀ j, j < 9 → P j
  | 0, _ => h0 | 1, _ => h1 | 2, _ => h2 | 3, _ => h3 | 4, _ => h4 | 5, _ => h5 | 6, _ => h6 | 7, _ => h7 | 8, _ => h8
  | j + 9, h => by omega
theorem dq2 {w : World} {b : Nat} (h : Bo w b dj) : Dq w (.slice (some ⟨b, 0, none⟩) 2 2) 2 qj := Or.inr ⟨b, 0, 2, rfl, by decide, by decide, by decide, fun i hi => by
  match i, hi with
  | 0, _ => exact h.part _ (get_of (lt6 rfl rfl rfl rfl rfl rfl))
  | 1, _ => exact h.part _ (get_of (lt6 rfl rfl rfl rfl rfl rfl))⟩
theorem dq0 {w : World} {b : Nat} (h : Bo w b dj) : Dq w (.slice (some ⟨b, 0, none⟩) 1 2) 1 qj := Or.inr ⟨b, 0, 2, rfl, by decide, by decide, by decide, fun i hi => by
  match i, hi with
  | 0, _ => exact h.part _ (get_of (lt6 rfl rfl rfl rfl rfl rfl))⟩
theorem dq1 {w : World} {b : Nat} (h : Bo w b dj) : Dq w (.slice (some ⟨b, 6, none⟩) 1 1) 1 qk := Or.inr ⟨b, 6, 1, rfl, by decide, by decide, by decide, fun i hi => by
  match i, hi with
  | 0, _ => exact h.part _ (get_of (lt6 rfl rfl rfl rfl rfl rfl))⟩
theorem ev2 {w : World} {b : Nat} (h : Bo w b ej) : Ev w (.slice (some ⟨b, 0, none⟩) 2 2) 2 hj := Or.inr ⟨b, 0, 2, rfl, by decide, by decide, by decide, fun i hi => by
  match i, hi with
  | 0, _ => exact ⟨h.part _ (get_of (lt9 rfl rfl rfl rfl rfl rfl rfl rfl rfl)), by decide⟩
  | 1, _ => exact ⟨h.part _ (get_of (lt9 rfl rfl rfl rfl rfl rfl rfl rfl rfl)), by decide⟩⟩
theorem ok_j : ∀ j, j < 2 → Ok1 ((1 : Nat) : Int) qj j := fun j hj => by
  match j, hj with
  | 0, _ => exact ⟨⟨by decide, by decide, by decide, by decide, by decide, by decide⟩, by decide, by decide⟩
  | 1, _ => exact ⟨⟨by decide, by decide, by decide, by decide, by decide, by decide⟩, by decide, by decide⟩
theorem oi_j : wl (oi ((1 : Nat) : Int) qj 2) = wl wz := wl_congr (by decide)
theorem bad_k : ¬ Ok1 ((1 : Nat) : Int) qk 0 := fun h => absurd h.2.1 (by decide)
theorem cs_j : callsF hj 2 = some [(0, some 1)] := by decide
theorem an_j : ansF hj qj 1 [(0, some 1)] 1 = .ok [some 0] := rfl
theorem op_j : opnF hj qj [(0, some 1)] [some 0] 1 = .ok ([some 0], []) := rfl
theorem or_j : ordB [(0, some 1)] [some 0] 1 = true := by decide
theorem an_0 : ansF hj qj 0 [(0, some 1)] 1 = .error 7 := rfl
set_option maxHeartbeats 8000000 in
theorem judged_is  (w : World) (hT : HandleAt w) :
    Calls Tryd.prog 12 #[] w (fun e w' => e = .returned (.bool true) ∧ Below w.heap.size w w') := by
  have HT : Hid (HandleAt w) := hT
  clear hT
  have LG : Hid (∀ {w : World} {b : Nat} (h : Bo w b dj), Calls Tryd.prog 7 #[.int .i64 1, .slice (some ⟨b, 0, none⟩) 2 2] w (LegalY w wz)) := fun {w b} h => by
    have := legal_yes (kind := 1) (by decide) (by decide) (dq2 h) ok_j
    unfold LegalY at this ⊢
    rw [oi_j] at this
    exact this
  have LN : Hid (∀ {w : World} {b : Nat} (h : Bo w b dj), Calls Tryd.prog 7 #[.int .i64 1, .slice (some ⟨b, 6, none⟩) 1 1] w (LegalN w 0)) := fun {w b} h => legal_not (kind := 1) (by decide) (by decide) (dq1 h) (by decide) (fun j hj => absurd hj (Nat.not_lt_zero _)) bad_k
  have FY : Hid (∀ {w : World} {b c : Nat} (h : Bo w b dj) (k : Bo w c ej), Calls Tryd.prog 10 #[.slice (some ⟨c, 0, none⟩) 2 2, .slice (some ⟨b, 0, none⟩) 1 2] w (Ret w .nilIface)) := fun {w b c} h k => by
    have := fits_end (by decide) (by decide) an_j op_j w (ev2 k) (dq0 h) (by decide) (by decide) (fun i hi => by obtain rfl : i = 0 := (by omega); decide) cs_j
    rw [or_j] at this
    exact this
  have FN : Hid (∀ {w : World} {c : Nat} (k : Bo w c ej), Calls Tryd.prog 10 #[.slice (some ⟨c, 0, none⟩) 2 2, .slice none 0 0] w (Ret w (errV 7))) := fun {w c} k => fits_ans (by decide) an_0 w (ev2 k) (Or.inl ⟨rfl, none, 0, rfl, fun _ => rfl⟩) (by decide) (by decide) (fun i hi => absurd hi (Nat.not_lt_zero _)) cs_j
  have EE := cells_equal wz
  have hM : Hid _ := (Ms.nil w)
  go_enter Tryd.func12, Tryd.ntmps12
  go_wp2_with fail
  refine (kput_is 3 _).mono ?_
  rintro e W ⟨rfl, hb⟩
  replace hM := hid (hM.out.later hb)
  clear hb
  generalize hsz : w.heap.size = n at hM ⊢
  clear hsz
  obtain ⟨bd, hbd⟩ : ∃ q, q = W.heap.size := ⟨_, rfl⟩
  replace hM := hid (hM.out.born dj 53 hbd)
  have HBD : Hid _ := hbd
  clear hbd
  go_wp2_with fail
  rw [← HBD.out]
  change Hid (Ms n w (W.alloc (.cells #[.int .i64 0, .int .i64 1, .int .i64 0, .int .i64 3, .int .i64 1, .int .i64 0, .int .i64 1, .int .i64 2, .int .i64 0, .int .i64 0, .int .i64 1, .int .i64 3] 53)) [(bd, dj)] []) at hM
  generalize World.alloc _ _ = W at hM ⊢
  refine (LG.out (hM.out.at 0 rfl)).mono ?_
  rintro e W ⟨rfl, hb⟩
  replace hM := hid (hM.out.later hb)
  clear hb
  obtain ⟨bx1, hbx1⟩ : ∃ q, q = W.heap.size := ⟨_, rfl⟩
  replace hM := hid (hM.out.bornR wz_all.symm 31 (b := bx1) hbx1)
  have Hbx1 : Hid _ := hbx1
  clear hbx1
  go_wp2_with (first
    | (rw [← Hbx1.out]; refine sR rfl (hM.out.at 0 rfl) rfl ((rwC wz).len (rwC wz)) (rwC wz) ?_
       replace hM := hid (hM.out.put 0 rfl (wl wz) ((rwC wz).len (rwC wz)))
       generalize World.setCells _ _ _ _ = W at hM ⊢))
  refine (LN.out (hM.out.at 1 rfl)).mono ?_
  rintro e W ⟨ba, rfl, hq, hA, hb⟩
  replace hM := hid (hM.out.laterB hb hq hA)
  clear hb hq hA
  obtain ⟨bx2, hbx2⟩ : ∃ q, q = W.heap.size := ⟨_, rfl⟩
  replace hM := hid (hM.out.bornR wz_all.symm 31 (b := bx2) hbx2)
  have Hbx2 : Hid _ := hbx2
  clear hbx2
  go_wp2_with (first
    | (rw [← Hbx2.out]; refine sR rfl (hM.out.at 0 rfl) rfl ((rwC wz).len (rwC wz)) (rwC wz) ?_
       replace hM := hid (hM.out.put 0 rfl (wl wz) ((rwC wz).len (rwC wz)))
       generalize World.setCells _ _ _ _ = W at hM ⊢))
  refine (kput_is 3 _).mono ?_
  rintro e W ⟨rfl, hb⟩
  replace hM := hid (hM.out.later hb)
  clear hb
  go_wp2_with fail
  refine (kput_is 3 _).mono ?_
  rintro e W ⟨rfl, hb⟩
  replace hM := hid (hM.out.later hb)
  clear hb
  obtain ⟨bh, hbh⟩ : ∃ q, q = W.heap.size := ⟨_, rfl⟩
  replace hM := hid (hM.out.born ej 85 hbh)
  have HBH : Hid _ := hbh
  clear hbh
  go_wp2_with fail
  rw [← HBH.out]
  change Hid (Ms n w (W.alloc (.cells #[.int .i64 1, .int .i64 0, .int .i64 1, .int .i64 0, .int .i64 3, .int .i64 0, .int .i64 0, .int .i64 0, .int .i64 0, .int .i64 2, .int .i64 0, .int .i64 1, .int .i64 0, .int .i64 3, .int .i64 1, .int .i64 0, .int .i64 1, .int .i64 0] 85)) [(bh, ej), (bx2, (wl wz)), (ba, [.int .i64 13, .int .i64 ((0 : Nat) : Int)]), (bx1, (wl wz)), (bd, dj)] []) at hM
  generalize World.alloc _ _ = W at hM ⊢
  replace hM := hid (hM.out.drew)
  refine wp_region_held_drew (S := fun w' => Bo w' bx1 (wl wz)) (by kernel_rfl) (hM.out.at 3 rfl) (fun hH => ?_)
  generalize World.drew _ = W at hM hH  ⊢
  refine tk 0 rfl hH ?_
  simp only [Act.put, p1, p2, p3]
  refine tk 1 rfl hH ?_
  simp only [Act.put, p1, p2, p3]
  refine tk 2 rfl hH ?_
  simp only [Act.put, p1, p2, p3]
  refine tkR 3 rfl hH (fun _ h => h) (rwC wz) ?_
  simp only [Act.put, p1, p2, p3]
  refine rd1 4 rfl (fun K hK => ?_)
  go_simp
  refine (made0_is _).mono ?_
  rintro e W ⟨rfl, hb⟩
  replace hM := hid (hM.out.later hb)
  clear hb
  go_wp2_with fail
  refine hK.out _ _ (hM.out.at 3 rfl) (fun hH => ?_)
  clear hK K
  try simp only [Act.put, p1, p2, p3]
  refine tk 5 rfl hH ?_
  simp only [Act.put, p1, p2, p3]
  refine tk 6 rfl hH ?_
  simp only [Act.put, p1, p2, p3]
  refine tk 7 rfl hH ?_
  simp only [Act.put, p1, p2, p3]
  refine tk 8 rfl hH ?_
  simp only [Act.put, p1, p2, p3]
  refine rd1 9 rfl (fun K hK => ?_)
  go_simp
  refine (tell_at 13 ba _ (HT.out.below hM.out.below) ((hM.out.at 2 rfl).cell 0 _ rfl)).mono ?_
  rintro e W ⟨rfl, hg⟩
  have hb := hg.below
  clear hg
  replace hM := hid (hM.out.later hb)
  clear hb
  go_wp2_with fail
  refine hK.out _ _ (hM.out.at 3 rfl) (fun hH => ?_)
  clear hK K
  try simp only [Act.put, p1, p2, p3]
  refine tk 10 rfl hH ?_
  simp only [Act.put, p1, p2, p3]
  refine tk 11 rfl hH ?_
  simp only [Act.put, p1, p2, p3]
  refine tk 12 rfl hH ?_
  simp only [Act.put, p1, p2, p3]
  refine tk 13 rfl hH ?_
  simp only [Act.put, p1, p2, p3]
  refine tk 14 rfl hH ?_
  simp only [Act.put, p1, p2, p3]
  refine tk 15 rfl hH ?_
  simp only [Act.put, p1, p2, p3]
  refine rd1 16 rfl (fun K hK => ?_)
  go_simp
  refine (FY.out (hM.out.at 4 rfl) (hM.out.at 0 rfl)).mono ?_
  rintro e W ⟨rfl, hb⟩
  replace hM := hid (hM.out.later hb)
  clear hb
  go_wp2_with fail
  refine hK.out _ _ (hM.out.at 3 rfl) (fun hH => ?_)
  clear hK K
  try simp only [Act.put, p1, p2, p3]
  refine tk 17 rfl hH ?_
  simp only [Act.put, p1, p2, p3]
  refine tk 18 rfl hH ?_
  simp only [Act.put, p1, p2, p3]
  refine tk 19 rfl hH ?_
  simp only [Act.put, p1, p2, p3]
  refine tk 20 rfl hH ?_
  simp only [Act.put, p1, p2, p3]
  refine rd1 21 rfl (fun K hK => ?_)
  go_simp
  refine (FN.out (hM.out.at 0 rfl)).mono ?_
  rintro e W ⟨rfl, hb⟩
  replace hM := hid (hM.out.later hb)
  clear hb
  go_wp2_with fail
  refine hK.out _ _ (hM.out.at 3 rfl) (fun hH => ?_)
  clear hK K
  try simp only [Act.put, p1, p2, p3]
  refine rd1 22 rfl (fun K hK => ?_)
  go_simp
  refine (tell_errno 7 _ (HT.out.below hM.out.below)).mono ?_
  rintro e W ⟨rfl, hg⟩
  have hb := hg.below
  clear hg
  replace hM := hid (hM.out.later hb)
  clear hb
  go_wp2_with fail
  refine hK.out _ _ (hM.out.at 3 rfl) (fun hH => ?_)
  clear hK K
  try simp only [Act.put, p1, p2, p3]
  refine tk 23 rfl hH ?_
  simp only [Act.put, p1, p2, p3]
  refine tk 24 rfl hH ?_
  simp only [Act.put, p1, p2, p3]
  refine tk 25 rfl hH ?_
  simp only [Act.put, p1, p2]
  refine wpAnyH_done (by kernel_rfl) ?_ _
  go_wp2
  go_ret
  exact ⟨rfl, hM.out.below⟩
end Go.Proofs.YtaipanjigindbaaDoor.Tab
namespace Go.Proofs.YtaipanjigindbaaDoor.Tab
set_option maxRecDepth 20000
open Go.RowKit
set_option linter.unusedVariables false

def dds (l : List DD) : List Value := l.flatMap DD.row
def qof (l : List DD) (i : Nat) : DD := l.getD i ⟨0, 0, 0, 0, 0, 0⟩
theorem dds_length (l : List DD) : (dds l).length = l.length * 6 := by
  induction l with
  | nil => rfl
  | cons c cs ih => show (c.row ++ dds cs).length = _; rw [List.length_append, ih]; simp [DD.row, dl]; omega
theorem dds_get : ∀ (l : List DD) (i j : Nat) (v : Value), i < l.length → (qof l i).row[j]? = some v → (dds l)[i * 6 + j]? = some v
  | [], i, j, v, hi, h => by simp at hi
  | d :: l, 0, j, v, hi, h => by
    rw [Nat.zero_mul, Nat.zero_add]
    show (d.row ++ dds l)[j]? = _
    have hj : j < d.row.length := (List.getElem?_eq_some_iff.1 h).1
    rw [List.getElem?_append_left hj]; exact h
  | d :: l, i + 1, j, v, hi, h => by
    have := dds_get l i j v (by simpa using hi) h
    show (d.row ++ dds l)[(i + 1) * 6 + j]? = _
    have hl : d.row.length = 6 := rfl
    rw [List.getElem?_append_right (by rw [hl]; omega), hl, show (i + 1) * 6 + j - 6 = i * 6 + j by omega]
    exact this
theorem dds_app (l : List DD) (d : DD) : dds (l ++ [d]) = dds l ++ d.row := by simp [dds]
theorem qof_app (l : List DD) (d : DD) {i : Nat} (hi : i < l.length) : qof (l ++ [d]) i = qof l i := by
  unfold qof; rw [List.getD_eq_getElem?_getD, List.getD_eq_getElem?_getD, List.getElem?_append_left hi]
theorem qof_last (l : List DD) (d : DD) : qof (l ++ [d]) l.length = d := by unfold qof; simp
theorem oi_congr {kind : Int} {q r : Nat → DD} : ∀ i, (∀ j, j < i → q j = r j) → oi kind q i = oi kind r i
  | 0, _ => rfl
  | i + 1, h => by
    show (odo kind (oi kind q i) (q i).o (q i).k (q i).x).1 = (odo kind (oi kind r i) (r i).o (r i).k (r i).x).1
    rw [oi_congr i fun j hj => h j (by omega), h i (by omega)]
theorem Ok1.congr {kind : Int} {q r : Nat → DD} {i : Nat} (h : ∀ j, j ≤ i → q j = r j) (ok : Ok1 kind q i) : Ok1 kind r i := by
  unfold Ok1 at ok ⊢
  rw [← oi_congr i fun j hj => h j (by omega), ← h i (Nat.le_refl _)]
  exact ok
def nd (o k x c y : Int) : DD := ⟨0, o, k, x, c, y⟩
theorem ok_app {kind : Int} {l : List DD} {o k x : Int} (hok : ∀ j, j < l.length → Ok1 kind (qof l) j) (hR : Rt o k x) {c y : Int} (hc : (odo kind (oi kind (qof l) l.length) o k x).2.1 = c) (hy : (odo kind (oi kind (qof l) l.length) o k x).2.2 = y) :
    (∀ j, j < (l ++ [nd o k x c y]).length → Ok1 kind (qof (l ++ [nd o k x c y])) j) ∧ oi kind (qof (l ++ [nd o k x c y])) (l ++ [nd o k x c y]).length = (odo kind (oi kind (qof l) l.length) o k x).1 := by
  have e : oi kind (qof (l ++ [nd o k x c y])) l.length = oi kind (qof l) l.length := oi_congr _ fun j hj => qof_app l _ hj
  have hq : qof (l ++ [nd o k x c y]) l.length = ⟨0, o, k, x, c, y⟩ := qof_last l _
  constructor
  · intro j hj
    rw [List.length_append] at hj
    by_cases hl : j < l.length
    · exact (hok j hl).congr fun i hi => (qof_app l _ (by omega)).symm
    · obtain rfl : j = l.length := by simp at hj; omega
      exact (Ok1.at hq).2 ⟨hR, by rw [e]; exact hc, by rw [e]; exact hy⟩
  · rw [List.length_append]
    show oi kind (qof (l ++ [nd o k x c y])) (l.length + 1) = _
    rw [oi_at hq, e]
/-- A row of deeds of the call's own. -/
def Odd (B : Nat) (W : World) (v : Value) (l : List DD) : Prop := W.ownsRow B 53 6 v l.length (dds l)
section
variable {B : Nat} {W W' : World} {v : Value} {l : List DD}
theorem Odd.nil (B : Nat) (W : World) : Odd B W (.slice none 0 0) [] := World.ownsRow_nil _ _ _ _
theorem Odd.keep (h : Odd B W v l) (hb : ∀ g, v.ownBlock = some g → W'.heap[g]? = W.heap[g]?) : Odd B W' v l := by
  refine ⟨h.1, ?_⟩
  rcases h.2 with e | ⟨g, cap, cur, hv, h1, h2, h3⟩
  · exact .inl e
  · exact .inr ⟨g, cap, cur, hv, h1, by rw [hb g (by rw [hv]; rfl)]; exact h2, h3⟩
theorem Odd.lt (h : Odd B W v l) : ∀ g, v.ownBlock = some g → B ≤ g ∧ g < W.heap.size := World.ownsRow.lt h
theorem Odd.later (h : Odd B W v l) (hb : Below W.heap.size W W') : Odd B W' v l := h.keep fun g hg => hb.block g (h.lt g hg).2
theorem Odd.new (h : Odd B W v l) (o : Obj) : Odd B (W.alloc o) v l := h.later (new_below W o)
theorem Odd.asideL (h : Odd B W v l) {c : Nat} (hc : ∀ g, v.ownBlock = some g → g ≠ c) (o : Nat) (vs : List Value) : Odd B (W.setCells c o vs) v l := h.keep fun g hg => heap_setCells (hc g hg) _ _ _
theorem Odd.aside (h : Odd B W v l) {c : Nat} (hc : c < B) (o : Nat) (vs : List Value) : Odd B (W.setCells c o vs) v l := h.asideL (fun g hg => by have := (h.lt g hg).1; omega) o vs
theorem Odd.form (h : Odd B W v l) : (v = .slice none 0 0 ∧ l = []) ∨ ∃ g cap, v = .slice (some ⟨g, 0, none⟩) l.length cap ∧ B ≤ g ∧ l.length ≤ cap ∧ Bo W g (dds l) := by
  rcases h.2 with ⟨e, e2⟩ | ⟨g, cap, cur, hv, h1, h2, h3, h4, h5, h6⟩
  · exact .inl ⟨e, List.length_eq_zero_iff.1 e2⟩
  · have h' : W.ownsRow B 53 6 (.slice (some ⟨g, 0, none⟩) l.length cap) l.length (dds l) := hv ▸ h
    refine .inr ⟨g, cap, hv, h1, h3, ⟨fun j u hu => ?_, fun j => World.ownsRow.frozenAt h' j, (h.lt g (by rw [hv]; rfl)).2⟩⟩
    have hj : j < l.length * 6 := by rw [← dds_length]; exact (List.getElem?_eq_some_iff.1 hu).1
    rw [World.ownsRow.cellAt h' j hj]; exact hu
theorem infoDeed : (Tryd.prog.info? 53).map (fun i => (i.zero, i.size, i.bytes)) = some (some (.agg #[.int .i64 0, .int .i64 0, .int .i64 0, .int .i64 0, .int .i64 0, .int .i64 0]), 6, 48) := by kernel_rfl
theorem deeds_desc : Tryd.prog.underlying 22 = some (.slice 53) := by kernel_rfl
theorem Odd.push (h : Odd B W v l) (hB : B ≤ W.heap.size) {nb : Nat} {d : DD} (hc : Bo W nb d.row) (hn : l.length ≤ 1000000) (ty : TypeId) :
    ∃ v' W', (Builtin.append_ #[22, 22] ty #[v, .slice (some ⟨nb, 0, none⟩) 1 1]).run Tryd.prog W = .ok v' W' ∧ Odd B W' v' (l ++ [d]) ∧ Below B W W' := by
  obtain ⟨i0, hi, hz0, hz1, hz2⟩ := info_parts infoDeed
  obtain ⟨v', w', hr, ho, hg, _⟩ := run_append_own (P := Tryd.prog) (w := W) B 22 ty 53 i0 (.agg #[.int .i64 0, .int .i64 0, .int .i64 0, .int .i64 0, .int .i64 0, .int .i64 0]) 6 48 deeds_desc hi hz0 hz1 hz2 rfl (by decide) v l.length (dds l) h ⟨nb, 0, none⟩ 1 1 d.row rfl
    (fun j u hu => by rw [Addr.add_lit, Nat.zero_add]; exact hc.cell j u hu)
    (fun u hu => by simp [DD.row, dl] at hu; rcases hu with rfl | rfl | rfl | rfl | rfl | rfl <;> rfl) (by unfold maxLen; omega) (by omega) hB
  refine ⟨v', w', hr, ?_, (Below.refl _ W).grown hg hB (fun j hj => (h.lt j hj).1)⟩
  unfold Odd
  rw [dds_app, List.length_append]
  exact ho
end
theorem Bo.deeds {W : World} {g : Nat} {l : List DD} (h : Bo W g (dds l)) {i : Nat} (hi : i < l.length) : W.rangeAt g (i * 6) (qof l i).row := fun j v hv => h.cell _ v (dds_get l i j v hi hv)
theorem Bo.dq {W : World} {g : Nat} {l : List DD} (h : Bo W g (dds l)) {n cap : Nat} (hn : n ≤ l.length) (hc : n ≤ cap) (h30 : l.length ≤ 1000000) : Dq W (.slice (some ⟨g, 0, none⟩) n cap) n (qof l) := by
  by_cases h0 : n = 0
  · subst h0; exact Or.inl ⟨rfl, _, _, rfl, fun h => by cases h⟩
  · exact Or.inr ⟨g, 0, cap, rfl, by omega, hc, by omega, fun i hi => by rw [Nat.zero_add]; exact h.deeds (by omega)⟩
section
variable {P : Program} {ops : Array Oper} {rest : List Oper} {o : Oper} {a : Act} {w : World} {Q : Exit → Act → World → Prop}
theorem wpList_pushD (hP : P = Tryd.prog) (hgd : o.guard = none) (s x : Operand) (ho : o.op = .call { callee := .builtin .append, args := #[s, x], argTypes := #[22, 22] })
    {B : Nat} {v : Value} {l : List DD} {nb : Nat} {d : DD} (hs : a.eval s = v) (hx : a.eval x = .slice (some ⟨nb, 0, none⟩) 1 1) (hB : B ≤ w.heap.size) (h : Odd B w v l) (hc : Bo w nb d.row) (hn : l.length ≤ 1000000)
    (hk : ∀ v' w', Odd B w' v' (l ++ [d]) → Below B w w' → wpList P ops Q rest (a.put o.dst v') w') : wpList P ops Q (o :: rest) a w := by
  subst hP
  refine wpList_plain hgd fun K hK => ?_
  obtain ⟨v', w', hr, h2, h3⟩ := h.push hB hc hn o.type
  unfold Oper.wp execOp
  simp only [ho, resolve, invoke, builtin, Sem.run_bind, Sem.run_pure, Result.andThen_ok, List.map_toArray, List.map_cons, List.map_nil, hs, hx, hr]
  exact hK _ _ (hk v' w' h2 h3)
end
end Go.Proofs.YtaipanjigindbaaDoor.Tab
namespace Go.Proofs.YtaipanjigindbaaDoor.Tab
set_option maxRecDepth 20000
open Go.RowKit
set_option linter.unusedVariables false

set_option maxHeartbeats 2000000 in
theorem obSize_is {kind : Int} {c : Nat → Nat} (hO : isOb kind c) (w : World) :
    Calls Tryd.prog 33 #[.int .i64 kind, .agg (wl c).toArray] w (fun e w' => e = .returned (.tuple #[.int .i64 (osz kind c), .nilIface]) ∧ Below w.heap.size w w') := by
  obtain ⟨d, cc, y, hd, ho⟩ : ∃ d cc y, odo kind c 6 0 0 = (d, cc, y) ∧ (cc = 1 ∧ y = osz kind c) := ⟨_, _, _, rfl, (odo_facts (k := 0) (x := 0) hO (show (1 : Int) ≤ 6 by decide) (by decide) (by decide) (by decide) (by decide) (by decide)).count rfl⟩
  obtain ⟨rfl, rfl⟩ := ho
  have D : Hid (∀ w : World, Calls Tryd.prog 15 #[.int .i64 kind, .agg (wl c).toArray, .agg #[.int .i64 6, .int .i64 0, .int .i64 0]] w (DidD w d 1 (osz kind c))) := fun w => by have := obDo_is hO (o := 6) (k := 0) (x := 0) ⟨by decide, by decide, by decide, by decide, by decide, by decide⟩ w; rw [hd] at this; exact this
  clear hO hd
  have hM : Hid _ := ((Ms.nil w).born (wl c) 31 (b := w.heap.size) rfl)
  go_enter Tryd.func33, Tryd.ntmps33
  go_wp2_with (first
    | (refine lR rfl (hM.out.at 0 rfl) rfl (rwC c) ?_))
  generalize World.alloc _ _ = W at hM ⊢
  generalize hsz : w.heap.size = n at hM ⊢
  clear hsz
  refine (D.out _).mono ?_
  rintro e W ⟨rfl, hb⟩
  replace hM := hid (hM.out.later hb)
  clear hb
  obtain ⟨b1, hb1⟩ : ∃ q, q = W.heap.size := ⟨_, rfl⟩
  replace hM := hid ((hM.out.bornR wz_all.symm 31 hb1).born [.int .i64 0, .int .i64 0] 49 (b := b1 + 1) (by simp [hb1]))
  have HB : Hid _ := hb1
  clear hb1
  go_wp2_with (first
    | (rw [← HB.out]; refine sR rfl (hM.out.at 1 rfl) rfl ((rwC wz).len (rwC d)) (rwC d) ?_
       replace hM := hid (hM.out.put 1 rfl (wl d) ((rwC wz).len (rwC d)))
       generalize World.setCells _ _ _ _ = W at hM ⊢)
    | (refine sR rfl (hM.out.at 0 rfl) rfl ((rwA 0 0).len (rwA 1 (osz kind c))) (rwA 1 (osz kind c)) ?_
       replace hM := hid (hM.out.put 0 rfl [.int .i64 1, .int .i64 (osz kind c)] ((rwA 0 0).len (rwA 1 (osz kind c))))
       generalize World.setCells _ _ _ _ = W at hM ⊢
       have c1 := hM.out.cell 0 1 rfl rfl))
  go_ret2
  exact ⟨rfl, hM.out.below⟩
set_option maxHeartbeats 2000000 in
theorem obSize_no {kind : Int} {c : Nat → Nat} (hO : ¬ isOb kind c) (w : World) :
    Calls Tryd.prog 33 #[.int .i64 kind, .agg (wl c).toArray] w (fun e w' => e = .returned (.tuple #[.int .i64 0, .iface 24 (.int .i64 1)]) ∧ Below w.heap.size w w') := by
  have D : Hid (∀ w : World, Calls Tryd.prog 15 #[.int .i64 kind, .agg (wl c).toArray, .agg #[.int .i64 6, .int .i64 0, .int .i64 0]] w (Refd w)) := fun w => obDo_no (fun h => hO h.2) w
  clear hO
  have hM : Hid _ := ((Ms.nil w).born (wl c) 31 (b := w.heap.size) rfl)
  go_enter Tryd.func33, Tryd.ntmps33
  go_wp2_with (first
    | (refine lR rfl (hM.out.at 0 rfl) rfl (rwC c) ?_))
  generalize World.alloc _ _ = W at hM ⊢
  generalize hsz : w.heap.size = n at hM ⊢
  clear hsz
  refine (D.out _).mono ?_
  rintro e W ⟨rfl, hb⟩
  replace hM := hid (hM.out.later hb)
  clear hb
  obtain ⟨b1, hb1⟩ : ∃ q, q = W.heap.size := ⟨_, rfl⟩
  replace hM := hid ((hM.out.bornR wz_all.symm 31 hb1).born [.int .i64 0, .int .i64 0] 49 (b := b1 + 1) (by simp [hb1]))
  have HB : Hid _ := hb1
  clear hb1
  go_wp2_with (first
    | (rw [← HB.out]; refine sR rfl (hM.out.at 1 rfl) rfl ((rwC wz).len (rwC wz)) (rwC wz) ?_
       replace hM := hid (hM.out.put 1 rfl (wl wz) ((rwC wz).len (rwC wz)))
       generalize World.setCells _ _ _ _ = W at hM ⊢)
    | (refine sR rfl (hM.out.at 0 rfl) rfl ((rwA 0 0).len (rwA 0 0)) (rwA 0 0) ?_
       replace hM := hid (hM.out.put 0 rfl [.int .i64 0, .int .i64 0] ((rwA 0 0).len (rwA 0 0)))
       generalize World.setCells _ _ _ _ = W at hM ⊢
       have c1 := hM.out.cell 0 1 rfl rfl))
  go_ret2
  exact ⟨rfl, hM.out.below⟩
end Go.Proofs.YtaipanjigindbaaDoor.Tab
namespace Go.Proofs.YtaipanjigindbaaDoor.Tab
set_option maxRecDepth 20000
open Go.RowKit

theorem answer_sz : (Tryd.prog.info? 49).map (·.size) = some 2 := by kernel_rfl
theorem answer_st : ∃ fs, Tryd.prog.underlying 49 = some (.struct fs) := ⟨_, Tryd.underlying49⟩
end Go.Proofs.YtaipanjigindbaaDoor.Tab
namespace Go.Proofs.YtaipanjigindbaaDoor.Tab
set_option maxRecDepth 20000
open Go.RowKit
set_option linter.unusedVariables false

def cl (l : List Nat) : Nat → Nat := fun j => l.getD j 0
theorem th1 (w : World) : Calls Tryd.prog 15 #[.int .i64 2, .agg #[.int .u64 1, .int .u64 5, .int .u64 0, .int .u64 0, .int .u64 0, .int .u64 0, .int .u64 0, .int .u64 0, .int .u64 0, .int .u64 0, .int .u64 0, .int .u64 0, .int .u64 0, .int .u64 0, .int .u64 0, .int .u64 0, .int .u64 0], .agg #[.int .i64 2, .int .i64 0, .int .i64 0]] w (DidD w wz 1 5) := by
  have hO : isOb 2 (cl [1, 5]) := Or.inl ⟨Or.inr (Or.inl rfl), by decide⟩
  have h := obDo_is (o := 2) (k := 0) (x := 0) hO ⟨by decide, by decide, by decide, by decide, by decide, by decide⟩ w
  have e : odo 2 (cl [1, 5]) 2 0 0 = (lw [], 1, 5) := by
    rw [odo, if_neg (by decide), if_neg (by decide), ldo, if_neg (by decide), if_pos rfl]
    have : lst (cl [1, 5]) = [] ++ [5] := rfl
    rw [this, sdo_take]
  rw [e] at h
  have hz : wl (lw []) = wl wz := wl_congr fun j hj => by unfold lw wz; simp
  unfold DidD at h ⊢
  dsimp only at h
  rw [hz] at h
  exact h
theorem th2 (w : World) : Calls Tryd.prog 33 #[.int .i64 1, .agg #[.int .u64 2, .int .u64 7, .int .u64 8, .int .u64 0, .int .u64 0, .int .u64 0, .int .u64 0, .int .u64 0, .int .u64 0, .int .u64 0, .int .u64 0, .int .u64 0, .int .u64 0, .int .u64 0, .int .u64 0, .int .u64 0, .int .u64 0]] w fun e w' => e = .returned (.tuple #[.int .i64 2, .nilIface]) ∧ Below w.heap.size w w' := by
  have hO : isOb 1 (cl [2, 7, 8]) := Or.inl ⟨Or.inl rfl, by decide⟩
  have h := obSize_is hO w
  have e : osz 1 (cl [2, 7, 8]) = 2 := rfl
  rw [e] at h
  exact h
theorem th3 (w : World) : Calls Tryd.prog 34 #[.int .i64 4, .agg #[.int .u64 2, .int .u64 1, .int .u64 3, .int .u64 0, .int .u64 0, .int .u64 0, .int .u64 0, .int .u64 0, .int .u64 0, .int .u64 0, .int .u64 0, .int .u64 0, .int .u64 0, .int .u64 0, .int .u64 0, .int .u64 0, .int .u64 0]] w fun e w' => e = .returned (.bool true) ∧ Below w.heap.size w w' := by
  have hO : isOb 4 (cl [2, 1, 3]) := Or.inr (Or.inl ⟨rfl, by decide, fun i h0 h1 => by
    have h2 : i < 2 := h1
    obtain rfl : i = 1 := by omega
    decide⟩)
  exact obRight_is (c := cl [2, 1, 3]) (v := true) ⟨fun _ => hO, fun _ => rfl⟩ w
theorem th4 (w : World) : Calls Tryd.prog 34 #[.int .i64 4, .agg #[.int .u64 2, .int .u64 3, .int .u64 1, .int .u64 0, .int .u64 0, .int .u64 0, .int .u64 0, .int .u64 0, .int .u64 0, .int .u64 0, .int .u64 0, .int .u64 0, .int .u64 0, .int .u64 0, .int .u64 0, .int .u64 0, .int .u64 0]] w fun e w' => e = .returned (.bool false) ∧ Below w.heap.size w w' := by
  have hO : ¬ isOb 4 (cl [2, 3, 1]) := by
    rintro (⟨h | h | h, _⟩ | ⟨_, _, h⟩ | ⟨h, _⟩ | ⟨h, _⟩)
    · exact absurd h (by decide)
    · exact absurd h (by decide)
    · exact absurd h (by decide)
    · exact absurd (h 1 (by decide) (by decide)) (by decide)
    · exact absurd h (by decide)
    · exact absurd h (by decide)
  exact obRight_is (c := cl [2, 3, 1]) (v := false) ⟨fun h => absurd h (by decide), fun h => absurd h hO⟩ w
set_option maxHeartbeats 4000000 in
set_option maxRecDepth 20000 in
theorem things_is  (w : World) :
    Calls Tryd.prog 13 #[] w (fun e w' => e = .returned (.bool true) ∧ Below w.heap.size w w') := by
  have HA : Hid ((Tryd.prog.info? 49).map (·.size) = some 2) := answer_sz
  obtain ⟨fs, ha⟩ := answer_st
  have HDA : Hid _ := ha
  clear ha
  obtain ⟨nb, eb, hd⟩ := cells_array
  have HC : Hid _ := hd
  clear hd
  have HCS : Hid _ := cells_size
  have HCZ : Hid _ := cells_size2
  have g0 : Hid (Gd w.heap.size w w) := Gd.refl w
  have EZ : Hid (∀ w : World, _) := fun w => cells_zero w
  go_enter Tryd.func13, Tryd.ntmps13
  go_wp2_with fail
  refine (th1 _).mono ?_
  rintro e u1q ⟨rfl, hb⟩
  have h2q : Hid (Gd w.heap.size w u1q) := g0.out.later hb
  clear g0
  clear hb
  generalize hsz : w.heap.size = n at h2q  ⊢
  have HSZ : Hid (w.heap.size = n) := hsz
  clear hsz
  have l3q : n ≤ u1q.heap.size := h2q.out.le
  have h4q : Hid (Gd n w (u1q.alloc (.cells #[.int .u64 0, .int .u64 0, .int .u64 0, .int .u64 0, .int .u64 0, .int .u64 0, .int .u64 0, .int .u64 0, .int .u64 0, .int .u64 0, .int .u64 0, .int .u64 0, .int .u64 0, .int .u64 0, .int .u64 0, .int .u64 0, .int .u64 0] 31))) := h2q.out.new (.cells #[.int .u64 0, .int .u64 0, .int .u64 0, .int .u64 0, .int .u64 0, .int .u64 0, .int .u64 0, .int .u64 0, .int .u64 0, .int .u64 0, .int .u64 0, .int .u64 0, .int .u64 0, .int .u64 0, .int .u64 0, .int .u64 0, .int .u64 0] 31)
  clear h2q
  have h5q : Hid (Bo (u1q.alloc (.cells #[.int .u64 0, .int .u64 0, .int .u64 0, .int .u64 0, .int .u64 0, .int .u64 0, .int .u64 0, .int .u64 0, .int .u64 0, .int .u64 0, .int .u64 0, .int .u64 0, .int .u64 0, .int .u64 0, .int .u64 0, .int .u64 0, .int .u64 0] 31)) u1q.heap.size (wl wz)) := Bo.born u1q (wl wz) 31 (by simp)
  have h6q : Hid (Gd n w ((u1q.alloc (.cells #[.int .u64 0, .int .u64 0, .int .u64 0, .int .u64 0, .int .u64 0, .int .u64 0, .int .u64 0, .int .u64 0, .int .u64 0, .int .u64 0, .int .u64 0, .int .u64 0, .int .u64 0, .int .u64 0, .int .u64 0, .int .u64 0, .int .u64 0] 31)).alloc (.cells #[.int .i64 0, .int .i64 0] 49))) := h4q.out.new (.cells #[.int .i64 0, .int .i64 0] 49)
  have h7q : Hid (Bo ((u1q.alloc (.cells #[.int .u64 0, .int .u64 0, .int .u64 0, .int .u64 0, .int .u64 0, .int .u64 0, .int .u64 0, .int .u64 0, .int .u64 0, .int .u64 0, .int .u64 0, .int .u64 0, .int .u64 0, .int .u64 0, .int .u64 0, .int .u64 0, .int .u64 0] 31)).alloc (.cells #[.int .i64 0, .int .i64 0] 49)) u1q.heap.size (wl wz)) := h5q.out.new (.cells #[.int .i64 0, .int .i64 0] 49)
  clear h4q h5q
  have h8q : Hid (Bo ((u1q.alloc (.cells #[.int .u64 0, .int .u64 0, .int .u64 0, .int .u64 0, .int .u64 0, .int .u64 0, .int .u64 0, .int .u64 0, .int .u64 0, .int .u64 0, .int .u64 0, .int .u64 0, .int .u64 0, .int .u64 0, .int .u64 0, .int .u64 0, .int .u64 0] 31)).alloc (.cells #[.int .i64 0, .int .i64 0] 49)) (u1q.heap.size + 1) [.int .i64 0, .int .i64 0]) := Bo.born (u1q.alloc (.cells #[.int .u64 0, .int .u64 0, .int .u64 0, .int .u64 0, .int .u64 0, .int .u64 0, .int .u64 0, .int .u64 0, .int .u64 0, .int .u64 0, .int .u64 0, .int .u64 0, .int .u64 0, .int .u64 0, .int .u64 0, .int .u64 0, .int .u64 0] 31)) [.int .i64 0, .int .i64 0] 49 (by simp)
  go_wp2_with (first
    | (refine wpList_store_mid rfl 31 _ _ rfl u1q.heap.size _ (wl wz).toArray rfl rfl (h7q.out.thereW wz) (HCZ.out wz) (wl_all wz) ?_
       have h9q : Hid (Gd n w (((u1q.alloc (.cells #[.int .u64 0, .int .u64 0, .int .u64 0, .int .u64 0, .int .u64 0, .int .u64 0, .int .u64 0, .int .u64 0, .int .u64 0, .int .u64 0, .int .u64 0, .int .u64 0, .int .u64 0, .int .u64 0, .int .u64 0, .int .u64 0, .int .u64 0] 31)).alloc (.cells #[.int .i64 0, .int .i64 0] 49)).setCells u1q.heap.size 0 (wl wz))) := h6q.out.asideL (by omega) 0 (wl wz)
       have h10q : Hid (Bo (((u1q.alloc (.cells #[.int .u64 0, .int .u64 0, .int .u64 0, .int .u64 0, .int .u64 0, .int .u64 0, .int .u64 0, .int .u64 0, .int .u64 0, .int .u64 0, .int .u64 0, .int .u64 0, .int .u64 0, .int .u64 0, .int .u64 0, .int .u64 0, .int .u64 0] 31)).alloc (.cells #[.int .i64 0, .int .i64 0] 49)).setCells u1q.heap.size 0 (wl wz)) u1q.heap.size (wl wz)) := h7q.out.setW wz
       have h11q : Hid (Bo (((u1q.alloc (.cells #[.int .u64 0, .int .u64 0, .int .u64 0, .int .u64 0, .int .u64 0, .int .u64 0, .int .u64 0, .int .u64 0, .int .u64 0, .int .u64 0, .int .u64 0, .int .u64 0, .int .u64 0, .int .u64 0, .int .u64 0, .int .u64 0, .int .u64 0] 31)).alloc (.cells #[.int .i64 0, .int .i64 0] 49)).setCells u1q.heap.size 0 (wl wz)) (u1q.heap.size + 1) [.int .i64 0, .int .i64 0]) := h8q.out.asideL (by omega) 0 (wl wz)
       clear h6q h7q h8q
       generalize (((u1q.alloc (.cells #[.int .u64 0, .int .u64 0, .int .u64 0, .int .u64 0, .int .u64 0, .int .u64 0, .int .u64 0, .int .u64 0, .int .u64 0, .int .u64 0, .int .u64 0, .int .u64 0, .int .u64 0, .int .u64 0, .int .u64 0, .int .u64 0, .int .u64 0] 31)).alloc (.cells #[.int .i64 0, .int .i64 0] 49)).setCells u1q.heap.size 0 (wl wz)) = u12q at h9q h10q h11q  ⊢)
    | (refine wpList_store_mid rfl 49 _ _ rfl (u1q.heap.size + 1) _ #[.int .i64 (1), .int .i64 (5)] rfl rfl h11q.out.there2 HA.out (two_one _ _) ?_
       have h13q : Hid (Gd n w (u12q.setCells (u1q.heap.size + 1) 0 [.int .i64 (1), .int .i64 (5)])) := h9q.out.asideL (by omega) 0 [.int .i64 (1), .int .i64 (5)]
       have h14q : Hid (Bo (u12q.setCells (u1q.heap.size + 1) 0 [.int .i64 (1), .int .i64 (5)]) u1q.heap.size (wl wz)) := h10q.out.asideL (by omega) 0 [.int .i64 (1), .int .i64 (5)]
       have h15q : Hid (Bo (u12q.setCells (u1q.heap.size + 1) 0 [.int .i64 (1), .int .i64 (5)]) (u1q.heap.size + 1) [.int .i64 (1), .int .i64 (5)]) := h11q.out.set2 (.int .i64 (1)) (.int .i64 (5))
       clear h9q h10q h11q
       generalize (u12q.setCells (u1q.heap.size + 1) 0 [.int .i64 (1), .int .i64 (5)]) = u16q at h13q h14q h15q  ⊢))
  refine (th2 _).mono ?_
  rintro e u17q ⟨rfl, hb⟩
  have h18q : Hid (Gd n w u17q) := h13q.out.later hb
  have h19q : Hid (Bo u17q u1q.heap.size (wl wz)) := h14q.out.later hb
  have h20q : Hid (Bo u17q (u1q.heap.size + 1) [.int .i64 (1), .int .i64 (5)]) := h15q.out.later hb
  clear h13q h14q h15q
  clear hb
  have c21q := h20q.out.at 0 rfl
  have c22q := h20q.out.at 1 rfl
  have ez := cells_zero
  go_wp2_with (first
    | (refine wpList_load_wanted (by rfl) 31 _ rfl u1q.heap.size _ rfl (wl wz) _ h19q.out.range HC.out rfl (HCS.out wz) ?_))
  refine (th3 _).mono ?_
  rintro e u23q ⟨rfl, hb⟩
  have h24q : Hid (Gd n w u23q) := h18q.out.later hb
  have h25q : Hid (Bo u23q u1q.heap.size (wl wz)) := h19q.out.later hb
  have h26q : Hid (Bo u23q (u1q.heap.size + 1) [.int .i64 (1), .int .i64 (5)]) := h20q.out.later hb
  clear h18q h19q h20q
  clear hb
  go_wp2_with fail
  refine (th4 _).mono ?_
  rintro e u27q ⟨rfl, hb⟩
  have h28q : Hid (Gd n w u27q) := h24q.out.later hb
  have h29q : Hid (Bo u27q u1q.heap.size (wl wz)) := h25q.out.later hb
  have h30q : Hid (Bo u27q (u1q.heap.size + 1) [.int .i64 (1), .int .i64 (5)]) := h26q.out.later hb
  clear h24q h25q h26q
  clear hb
  go_wp2
  go_ret
  exact ⟨rfl, by first | exact h28q.out.low | exact h28q.out.2⟩
end Go.Proofs.YtaipanjigindbaaDoor.Tab
namespace Go.Proofs.YtaipanjigindbaaDoor
set_option maxRecDepth 20000
open Go.ChangeShapes Go.WideShapes Go.ChangeAt Go.RowKit

theorem own : ownKnob Tryd.prog.godebug = none := by kernel_rfl
theorem gHandle : Tryd.prog.globalNamed "errors.errorType" = some 0 := by kernel_rfl
theorem rtHandle : (Tryd.prog.cutTypes.find? (·.1 == "internal/reflectlite.rtype")).map (·.2) = some 159 := by kernel_rfl
theorem oneRow : ((List.range 210).filter fun t => Tryd.prog.rowNamed t [101, 114, 114, 111, 114]) = [33] := by kernel_rfl
theorem typesSize : Tryd.prog.types.size = 210 := by kernel_rfl

abbrev laidHandle {H : Type} : List (String × DataW H) := [("errors.errorType", Rows.laid_errors_errorType)]

theorem door_handle (os : Os) (args : Array Value) : laidMetH Tryd.prog laidHandle ((World.doorLaid Tryd.prog 400 os).forCall (fun _ _ => 0) ⟨#[], args, []⟩).memory :=
  laidMetH_of_parts (laidMet_nil _ _) (by kernel_rfl)

theorem handle_of_laid {W : World} (h : laidMetH Tryd.prog laidHandle W) : HandleAt W := by
  have h' : laidMet Tryd.prog [] W ∧ handlesMet Tryd.prog laidHandle W := h
  obtain ⟨name, u, ty, e1, e2, e3, e4, e5⟩ := h'.2 _ (List.mem_singleton.2 rfl)
  have en : name = [101, 114, 114, 111, 114] := (Option.some.inj e1).symm
  subst en
  obtain rfl := Option.some.inj (rtHandle.symm.trans e2)
  have hm : ty ∈ (List.range 210).filter fun t => Tryd.prog.rowNamed t [101, 114, 114, 111, 114] := List.mem_filter.2 ⟨List.mem_range.2 (by rw [← typesSize]; exact e3), e4⟩
  rw [oneRow] at hm
  obtain rfl := List.mem_singleton.1 hm
  have hh : typeHandle Tryd.prog 33 = .pointer (some ⟨1, 33, none⟩) := by kernel_rfl
  rw [hh] at e5
  have := World.var?_cell gHandle e5 0
  rw [HandleAt, this]
  rfl
end Go.Proofs.YtaipanjigindbaaDoor
namespace Go.Proofs.YtaipanjigindbaaDoor
set_option maxRecDepth 20000
open Go.ChangeShapes Go.WideShapes Go.ChangeAt Go.RowKit

/-- n operations lie in the slice v. -/
def Ops (w : World) (v : Value) (n : Nat) : Prop :=
  (n = 0 ∧ ∃ (a : Option Addr) (c : Nat), v = .slice a 0 c ∧ (a = none → c = 0)) ∨
  ∃ (b off c : Nat), v = .slice (some ⟨b, off, none⟩) n c ∧ 0 < n ∧ n ≤ c ∧ n ≤ 9223372036854775807 ∧
    ∀ i, i < n → ∃ o k x : Int, w.cell? ⟨b, off + i * 3, none⟩ = some (.int .i64 o) ∧ w.cell? ⟨b, off + i * 3 + 1, none⟩ = some (.int .i64 k) ∧ w.cell? ⟨b, off + i * 3 + 2, none⟩ = some (.int .i64 x)
theorem Ops.later {w w' : World} {v : Value} {n : Nat} (h : Ops w v n) (hb : Below w.heap.size w w') : Ops w' v n := by
  rcases h with h | ⟨b, off, c, h1, h2, h3, h4, h5⟩
  · exact Or.inl h
  · refine Or.inr ⟨b, off, c, h1, h2, h3, h4, fun i hi => ?_⟩
    obtain ⟨o, k, x, c0, c1, c2⟩ := h5 i hi
    refine ⟨o, k, x, ?_, ?_, ?_⟩
    · rw [hb.cell (World.block_lt_of_cell? w _ c0)]; exact c0
    · rw [hb.cell (World.block_lt_of_cell? w _ c1)]; exact c1
    · rw [hb.cell (World.block_lt_of_cell? w _ c2)]; exact c2

theorem op_fields : ∃ f0 f1 f2 : Field, Tryd.prog.underlying 47 = some (.struct #[f0, f1, f2]) ∧
    (f0.type = 3 ∧ f0.offset = 0) ∧ (f1.type = 3 ∧ f1.offset = 1) ∧ (f2.type = 3 ∧ f2.offset = 2) :=
  ⟨_, _, _, Tryd.underlying47, ⟨rfl, rfl⟩, ⟨rfl, rfl⟩, ⟨rfl, rfl⟩⟩

set_option maxRecDepth 20000 in
theorem ops_of_trod {H : Type} {enc : TypeId × Value → H} {W : World} {r : Reach} {b0 : Nat} {v : Value} {d : DataW H} {p : List MemPlace} (hval : Value.okWide Tryd.prog W r b0 43 v)
    (h : DataW.Trod enc Tryd.prog W 0 (fun _ => true) true 43 v d p) : ∃ n, Ops W v n := by
  obtain ⟨fuel, hf⟩ := h
  obtain ⟨A, l, c, rfl⟩ := okWide_slice Tryd.underlying43 hval
  have hc3 : Tryd.prog.cellsOf 47 = 3 := by kernel_rfl
  have ci : Tryd.prog.cellsOf 3 = 1 := by kernel_rfl
  obtain ⟨f0, f1, f2, hu, ⟨t0, o0⟩, ⟨t1, o1⟩, ⟨t2, o2⟩⟩ := op_fields
  rcases Deep.open_slice Tryd.underlying43 hf with ⟨hcs, _⟩ | ⟨a, len, cap, m, n, D, Pl, hcs, _, hl, hmx, hm, _, hx⟩
  · simp [Value.cells] at hcs
    obtain ⟨rfl, rfl, rfl⟩ := hcs
    exact ⟨0, Or.inl ⟨rfl, none, 0, rfl, fun _ => rfl⟩⟩
  · simp [Value.cells] at hcs
    obtain ⟨rfl, rfl, rfl⟩ := hcs
    by_cases h0 : l = 0
    · subst h0
      exact ⟨0, Or.inl ⟨rfl, some a, c, rfl, fun h => by cases h⟩⟩
    have hcell : ∀ i, i < l → ∃ o k x : Int, W.cell? (a.add (i * 3)) = some (.int .i64 o) ∧ W.cell? ((a.add (i * 3)).add 1) = some (.int .i64 k) ∧ W.cell? ((a.add (i * 3)).add 2) = some (.int .i64 x) := by
      intro i hi
      obtain ⟨cs', h1, h2⟩ := hx i (by rw [hm]; simp; omega)
      rw [hc3] at h1
      obtain ⟨_, hlen, hcell⟩ := World.cells?_some h1
      obtain ⟨xs, k, _, _, _, hxl, hfl⟩ := DataW.trod_struct hu h2
      match cs', hlen, xs, hxl with
      | [v0, v1, v2], _, [y0, y1, y2], _ =>
        have k0 := hfl 0 f0 rfl
        have k1 := hfl 1 f1 rfl
        have k2 := hfl 2 f2 rfl
        rw [t0, o0, ci] at k0
        rw [t1, o1, ci] at k1
        rw [t2, o2, ci] at k2
        obtain ⟨n0, e0, _, _⟩ := DataW.trod_int Tryd.underlying3 k0
        obtain ⟨n1, e1, _, _⟩ := DataW.trod_int Tryd.underlying3 k1
        obtain ⟨n2, e2, _, _⟩ := DataW.trod_int Tryd.underlying3 k2
        simp at e0 e1 e2
        subst e0 e1 e2
        refine ⟨n0, n1, n2, ?_, hcell 1 (by omega), hcell 2 (by omega)⟩
        have := hcell 0 (by omega)
        simpa [Addr.add] using this
    obtain ⟨b, off, spot⟩ := a
    have hspot : spot = none := by
      obtain ⟨o, k, x, h1, _, _⟩ := hcell 0 (by omega)
      simpa [Addr.add] using World.cell?_spot h1
    subst hspot
    refine ⟨l, Or.inr ⟨b, off, c, rfl, by omega, hl, by unfold maxLen at hmx; omega, fun i hi => ?_⟩⟩
    obtain ⟨o, k, x, h1, h2, h3⟩ := hcell i hi
    rw [Addr.add_mid] at h1 h2 h3
    rw [Addr.add_mid] at h2 h3
    exact ⟨o, k, x, h1, h2, h3⟩

theorem ops_stay {H : Type} {enc : TypeId × Value → H} {W W' : World} {sp : Nat → Bool} {v : Value} {d : DataW H} {p : List MemPlace}
    (h : DataW.Trod enc Tryd.prog W 0 (fun _ => true) true 43 v d p) (hb : Below W.heap.size W W') (hlt : ∀ x ∈ p, x.block < W.heap.size) (hs : ∀ x ∈ p, sp x.block = true) :
    DataW.Trod enc Tryd.prog W' 0 sp true 43 v d p :=
  WideElems.Trod_stays laid_out (by kernel_rfl) (of_decide_eq_true (by kernel_rfl)) h (fun x hx => hb.same (hlt x hx)) hs
end Go.Proofs.YtaipanjigindbaaDoor
