/- Texts laid together: Package object: withList, by its contract: of queues, stacks, deques, heaps; Package object: Do, by its contract; Package object: Size, by its contract; The law's cellsOf, by its contract; errors.As at a target of type Errno, by its contracts (after the guide's worked text for a pointer target); An error taken apart: api.Tell, plain.Place, bare, at nil and at an Errno, by their contracts; The library's handle, behind all that a call lays; The library's handle of the type error, off the row's condition; An argument that is an array of words, as it lies in the call; Words of objects held against each other; The reference's OpRight, by its contracts; An argument that is an operation, as it lies in the call. -/
import Derived.Test.YtbmgjpdfmgcigabDoorPk02
import Derived.Test.YtbmgjpdfmgcigabDoorPk03
import Derived.Test.YtbmgjpdfmgcigabDoorPk07
import Derived.Test.YtbmgjpdfmgcigabDoorPk06
import Derived.Deep.DeepCutAuto
import Derived.Deep.RegionHeld3
import Derived.Test.YtbmgjpdfmgcigabDoorPk04
import Derived.Deep.LoopGhost
import Derived.Test.YtbmgjpdfmgcigabDoorPk00
import Derived.Test.YtbmgjpdfmgcigabDoorRows
import Derived.WalkKit
import Derived.LaidEql
import Derived.Stop.Asserts
import Derived.RowKitTokens
import Derived.Test.YtbmgjpdfmgcigabDoorTie
import Derived.ProofKit
import Derived.LaidMore
import Derived.LaidLaws
import Derived.LaidHandle
import Derived.OpenShut
import Derived.Stop.Joined
import Derived.Carry
import Derived.ChangeKeysEq
import Derived.Test.YtbmgjpdfmgcigabDoorPk01
import Derived.Lib.SmallJoins
namespace Go.Proofs.YtbmgjpdfmgcigabDoor.Tab
set_option maxRecDepth 20000
open Go.RowKit
set_option linter.unusedVariables false

set_option maxHeartbeats 4000000 in
theorem wlist_any {c : Nat → Nat} {b fk : Nat} {ys : List Int} {o k x cc y : Int} (he : ∀ args (w : World), (callFunc fk args).run Tryd.prog w = .ok (.enter fk args) w) (hW : WList c) (hD : ∀ B W v, IsL B W v (lst c) → Calls Tryd.prog fk #[v, .agg #[.int .i64 o, .int .i64 k, .int .i64 x]] W (Made W ys cc y)) (hl : ys.length ≤ 6) (hv : ∀ z ∈ ys, 0 ≤ z ∧ z ≤ 4294967295) (w : World) (hb : Bo w b [fv fk]) :
    Calls Tryd.prog 50 #[.agg (wl c).toArray, .agg #[.int .i64 o, .int .i64 k, .int .i64 x], .pointer (some ⟨b, 0, none⟩)] w (fun e w' => e = .returned (.tuple #[.agg (wl (lw ys)).toArray, .agg #[.int .i64 cc, .int .i64 y]]) ∧ Below w.heap.size w w') := by
  have LI : Hid (∀ w : World, _) := fun w => list_is hW w
  have DD : Hid _ := hD
  have LW : Hid (∀ B W v, IsL B W v ys → _) := fun B W v h => listWords_is (B := B) (w := W) (v := v) h hl hv
  generalize lst c = xs at *
  clear hW hD hl hv
  have hF : Hid (Bo w b [.func (.func fk) #[] #[]]) := hb
  clear hb
  have hM : Hid _ := (((((Ms.nil w).born (wl c) 24 (b := w.heap.size) rfl).born [.int .i64 o, .int .i64 k, .int .i64 x] 26 (b := w.heap.size + 1) (by simp)).bornR wz_all.symm 24 (b := w.heap.size + 2) (by simp)).born [.int .i64 0, .int .i64 0] 38 (b := w.heap.size + 3) (by simp))
  go_enter Tryd.func50, Tryd.ntmps50
  go_wp2_with fail
  generalize World.alloc _ _ = W at hM ⊢
  generalize hsz : w.heap.size = n at hM ⊢
  clear hsz
  go_cut [7, 8] (fun s7 s8 wx => ∃ bz8 B7 : Nat, s8 = .pointer (some ⟨bz8, 0, none⟩) ∧ Hid (Ms n w wx [((n + 2), (wl wz)), ((n + 3), [.int .i64 0, .int .i64 0]), (bz8, [.int .i64 cc, .int .i64 y])] [(B7, s7, ys)]))
  case first =>
    replace hM := hid (hM.out.drew)
    refine wp_region_held_drew (S := fun w' => Bo w' b [.func (.func fk) #[] #[]] ∧ Bo w' n (wl c) ∧ Bo w' (n + 1) [.int .i64 o, .int .i64 k, .int .i64 x]) (by kernel_rfl) ⟨hF.out.later hM.out.below, hM.out.at 3 rfl, hM.out.at 2 rfl⟩ (fun hH => ?_)
    generalize World.drew _ = W at hM hH  ⊢
    refine tk 0 rfl hH ?_ (by intro w h; have c0 := h.1.at 0 rfl; clear h; go_simp; try with_reducible rfl)
    simp only [Act.put, p1, p2, p3]
    refine tkR 1 rfl hH (fun _ h => h.2.1) (rwC c) ?_
    simp only [Act.put, p1, p2, p3]
    refine tk 3 rfl hH ?_ (by intro w h; have c0 := h.2.2.at 0 rfl; have c1 := h.2.2.at 1 rfl; have c2 := h.2.2.at 2 rfl; clear h; go_simp; try with_reducible rfl)
    simp only [Act.put, p1, p2, p3]
    refine rdn [2, 8] ?_
    refine rdc rfl (fun K hK => ?_) ?_
    · go_simp
      refine (LI.out _).mono ?_
      rintro e W ⟨v1, rfl, I, hb⟩
      replace hM := hid (hM.out.laterL hb I (Nat.le_refl _))
      clear hb
      go_wp2_with fail
      refine hK.out _ _ ⟨hF.out.later hM.out.below, hM.out.at 3 rfl, hM.out.at 2 rfl⟩ (fun hH => ?_)
      clear hK K
      try simp only [Act.put, p1, p2, p3]
      refine rdn [4, 8] ?_
      refine rdc rfl (fun K hK => ?_) ?_
      · go_simp
        refine (DD.out _ _ _ (hM.out.isL 0 rfl)).mono ?_
        rintro e W ⟨v2, rfl, I, hb⟩
        replace hM := hid (hM.out.laterL hb I (Nat.le_refl _))
        clear hb
        go_wp2_with fail
        refine hK.out _ _ ⟨hF.out.later hM.out.below, hM.out.at 3 rfl, hM.out.at 2 rfl⟩ (fun hH => ?_)
        clear hK K
        try simp only [Act.put, p1, p2, p3]
        refine tk 5 rfl hH ?_
        simp only [Act.put, p1, p2, p3]
        refine tk 6 rfl hH ?_
        simp only [Act.put, p1, p2, p3]
        refine tk 7 rfl hH ?_
        simp only [Act.put, p1, p2, p3]
        refine rd1 8 rfl (fun K hK => ?_)
        go_simp
        replace hM := hid (hM.out.born [.int .i64 0, .int .i64 0] 38 rfl)
        refine hK.out _ _ ⟨hF.out.later hM.out.below, hM.out.at 4 rfl, hM.out.at 3 rfl⟩ (fun hH => ?_)
        clear hK K
        generalize W.heap.size = bq1 at hM hH ⊢
        generalize World.alloc _ _ = W at hM hH  ⊢
        try simp only [Act.put, p1, p2, p3]
        refine tk 9 rfl hH ?_
        simp only [Act.put, p1, p2, p3]
        refine rd1 10 rfl (fun K hK => ?_)
        refine stR rfl (hM.out.at 0 rfl) ((rwA 0 0).len (rwA cc y)) (rwA cc y) ?_
        simp only [Act.put]
        replace hM := hid (hM.out.put 0 rfl [.int .i64 cc, .int .i64 y] ((rwA 0 0).len (rwA cc y)))
        refine hK.out _ _ ⟨hF.out.later hM.out.below, hM.out.at 4 rfl, hM.out.at 3 rfl⟩ (fun hH => ?_)
        clear hK K
        generalize World.setCells _ _ _ _ = W at hM hH ⊢
        try simp only [Act.put, p1, p2, p3]
        refine wpAnyH_done (by kernel_rfl) ?_ _
        go_wp2_with fail
        go_meet
        case rel => exact ⟨bq1, _, rfl, (hM.out.pick [2, 1, 0]).pickL [0]⟩
      refine rdc rfl (fun K hK => ?_) AllReadyH.nil
      go_simp
      replace hM := hid (hM.out.born [.int .i64 0, .int .i64 0] 38 rfl)
      refine hK.out _ _ ⟨hF.out.later hM.out.below, hM.out.at 4 rfl, hM.out.at 3 rfl⟩ (fun hH => ?_)
      clear hK K
      generalize W.heap.size = bq1 at hM hH ⊢
      generalize World.alloc _ _ = W at hM hH  ⊢
      try simp only [Act.put, p1, p2, p3]
      refine rd1 4 rfl (fun K hK => ?_)
      go_simp
      refine (DD.out _ _ _ (hM.out.isL 0 rfl)).mono ?_
      rintro e W ⟨v2, rfl, I, hb⟩
      replace hM := hid (hM.out.laterL hb I (Nat.le_refl _))
      clear hb
      go_wp2_with fail
      refine hK.out _ _ ⟨hF.out.later hM.out.below, hM.out.at 4 rfl, hM.out.at 3 rfl⟩ (fun hH => ?_)
      clear hK K
      try simp only [Act.put, p1, p2, p3]
      refine tk 5 rfl hH ?_
      simp only [Act.put, p1, p2, p3]
      refine tk 6 rfl hH ?_
      simp only [Act.put, p1, p2, p3]
      refine tk 7 rfl hH ?_
      simp only [Act.put, p1, p2, p3]
      refine tk 9 rfl hH ?_
      simp only [Act.put, p1, p2, p3]
      refine rd1 10 rfl (fun K hK => ?_)
      refine stR rfl (hM.out.at 0 rfl) ((rwA 0 0).len (rwA cc y)) (rwA cc y) ?_
      simp only [Act.put]
      replace hM := hid (hM.out.put 0 rfl [.int .i64 cc, .int .i64 y] ((rwA 0 0).len (rwA cc y)))
      refine hK.out _ _ ⟨hF.out.later hM.out.below, hM.out.at 4 rfl, hM.out.at 3 rfl⟩ (fun hH => ?_)
      clear hK K
      generalize World.setCells _ _ _ _ = W at hM hH ⊢
      try simp only [Act.put, p1, p2, p3]
      refine wpAnyH_done (by kernel_rfl) ?_ _
      go_wp2_with fail
      go_meet
      case rel => exact ⟨bq1, _, rfl, (hM.out.pick [2, 1, 0]).pickL [0]⟩
    refine rdc rfl (fun K hK => ?_) AllReadyH.nil
    go_simp
    replace hM := hid (hM.out.born [.int .i64 0, .int .i64 0] 38 rfl)
    refine hK.out _ _ ⟨hF.out.later hM.out.below, hM.out.at 4 rfl, hM.out.at 3 rfl⟩ (fun hH => ?_)
    clear hK K
    generalize W.heap.size = bq1 at hM hH ⊢
    generalize World.alloc _ _ = W at hM hH  ⊢
    try simp only [Act.put, p1, p2, p3]
    refine rd1 2 rfl (fun K hK => ?_)
    go_simp
    refine (LI.out _).mono ?_
    rintro e W ⟨v1, rfl, I, hb⟩
    replace hM := hid (hM.out.laterL hb I (Nat.le_refl _))
    clear hb
    go_wp2_with fail
    refine hK.out _ _ ⟨hF.out.later hM.out.below, hM.out.at 4 rfl, hM.out.at 3 rfl⟩ (fun hH => ?_)
    clear hK K
    try simp only [Act.put, p1, p2, p3]
    refine rd1 4 rfl (fun K hK => ?_)
    go_simp
    refine (DD.out _ _ _ (hM.out.isL 0 rfl)).mono ?_
    rintro e W ⟨v2, rfl, I, hb⟩
    replace hM := hid (hM.out.laterL hb I (Nat.le_refl _))
    clear hb
    go_wp2_with fail
    refine hK.out _ _ ⟨hF.out.later hM.out.below, hM.out.at 4 rfl, hM.out.at 3 rfl⟩ (fun hH => ?_)
    clear hK K
    try simp only [Act.put, p1, p2, p3]
    refine tk 5 rfl hH ?_
    simp only [Act.put, p1, p2, p3]
    refine tk 6 rfl hH ?_
    simp only [Act.put, p1, p2, p3]
    refine tk 7 rfl hH ?_
    simp only [Act.put, p1, p2, p3]
    refine tk 9 rfl hH ?_
    simp only [Act.put, p1, p2, p3]
    refine rd1 10 rfl (fun K hK => ?_)
    refine stR rfl (hM.out.at 0 rfl) ((rwA 0 0).len (rwA cc y)) (rwA cc y) ?_
    simp only [Act.put]
    replace hM := hid (hM.out.put 0 rfl [.int .i64 cc, .int .i64 y] ((rwA 0 0).len (rwA cc y)))
    refine hK.out _ _ ⟨hF.out.later hM.out.below, hM.out.at 4 rfl, hM.out.at 3 rfl⟩ (fun hH => ?_)
    clear hK K
    generalize World.setCells _ _ _ _ = W at hM hH ⊢
    try simp only [Act.put, p1, p2, p3]
    refine wpAnyH_done (by kernel_rfl) ?_ _
    go_wp2_with fail
    go_meet
    case rel => exact ⟨bq1, _, rfl, (hM.out.pick [2, 1, 0]).pickL [0]⟩
  case rest =>
    obtain ⟨bz8, B7, rfl, hM⟩ := hcut
    generalize wc = W at hM ⊢
    go_wp2_with fail
    replace hM := hid (hM.out.drew)
    refine wp_region_held_drew (S := fun w' => Bo w' bz8 [.int .i64 cc, .int .i64 y]) (by kernel_rfl) (hM.out.at 2 rfl) (fun hH => ?_)
    generalize World.drew _ = W at hM hH  ⊢
    refine tk 0 rfl hH ?_
    simp only [Act.put, p1, p2, p3]
    refine tk 2 rfl hH ?_ (by intro w h; have c0 := h.at 0 rfl; have c1 := h.at 1 rfl; clear h; go_simp; try with_reducible rfl)
    simp only [Act.put, p1, p2, p3]
    refine rd1 1 rfl (fun K hK => ?_)
    go_simp
    refine (LW.out _ _ _ (hM.out.isL 0 rfl)).mono ?_
    rintro e W ⟨rfl, hb⟩
    replace hM := hid (hM.out.later hb)
    clear hb
    go_wp2_with fail
    refine hK.out _ _ (hM.out.at 2 rfl) (fun hH => ?_)
    clear hK K
    try simp only [Act.put, p1, p2, p3]
    refine rd1 3 rfl (fun K hK => ?_)
    refine stR rfl (hM.out.at 0 rfl) ((rwC wz).len (rwC (lw ys))) (rwC (lw ys)) ?_
    simp only [Act.put]
    replace hM := hid (hM.out.put 0 rfl (wl (lw ys)) ((rwC wz).len (rwC (lw ys))))
    refine hK.out _ _ (hM.out.at 2 rfl) (fun hH => ?_)
    clear hK K
    generalize World.setCells _ _ _ _ = W at hM hH ⊢
    try simp only [Act.put, p1, p2, p3]
    refine rd1 4 rfl (fun K hK => ?_)
    refine stR rfl (hM.out.at 1 rfl) ((rwA 0 0).len (rwA cc y)) (rwA cc y) ?_
    simp only [Act.put]
    replace hM := hid (hM.out.put 1 rfl [.int .i64 cc, .int .i64 y] ((rwA 0 0).len (rwA cc y)))
    refine hK.out _ _ (hM.out.at 2 rfl) (fun hH => ?_)
    clear hK K
    generalize World.setCells _ _ _ _ = W at hM hH ⊢
    try simp only [Act.put, p1, p2, p3]
    refine wpAnyH_done (by kernel_rfl) ?_ _
    go_wp2
    exact bodyPost_ret (res2 Tryd.results50 (hM.out.at 0 rfl) (rwC (lw ys)) (hM.out.at 1 rfl) (rwA _ _)) rfl ⟨rfl, hM.out.below⟩
theorem he_q (args : Array Value) (w : World) : (callFunc 36 args).run Tryd.prog w = .ok (.enter 36 args) w := by kernel_rfl
theorem wlist_q {c : Nat → Nat} {b : Nat} {ys : List Int} {o k x cc y : Int} (hW : WList c) (hD : ∀ B W v, IsL B W v (lst c) → Calls Tryd.prog 36 #[v, .agg #[.int .i64 o, .int .i64 k, .int .i64 x]] W (Made W ys cc y)) (hl : ys.length ≤ 6) (hv : ∀ z ∈ ys, 0 ≤ z ∧ z ≤ 4294967295) (w : World) (hb : Bo w b [fv 36]) :
    Calls Tryd.prog 50 #[.agg (wl c).toArray, .agg #[.int .i64 o, .int .i64 k, .int .i64 x], .pointer (some ⟨b, 0, none⟩)] w (fun e w' => e = .returned (.tuple #[.agg (wl (lw ys)).toArray, .agg #[.int .i64 cc, .int .i64 y]]) ∧ Below w.heap.size w w') := wlist_any he_q hW hD hl hv w hb
theorem he_s (args : Array Value) (w : World) : (callFunc 37 args).run Tryd.prog w = .ok (.enter 37 args) w := by kernel_rfl
theorem wlist_s {c : Nat → Nat} {b : Nat} {ys : List Int} {o k x cc y : Int} (hW : WList c) (hD : ∀ B W v, IsL B W v (lst c) → Calls Tryd.prog 37 #[v, .agg #[.int .i64 o, .int .i64 k, .int .i64 x]] W (Made W ys cc y)) (hl : ys.length ≤ 6) (hv : ∀ z ∈ ys, 0 ≤ z ∧ z ≤ 4294967295) (w : World) (hb : Bo w b [fv 37]) :
    Calls Tryd.prog 50 #[.agg (wl c).toArray, .agg #[.int .i64 o, .int .i64 k, .int .i64 x], .pointer (some ⟨b, 0, none⟩)] w (fun e w' => e = .returned (.tuple #[.agg (wl (lw ys)).toArray, .agg #[.int .i64 cc, .int .i64 y]]) ∧ Below w.heap.size w w') := wlist_any he_s hW hD hl hv w hb
theorem he_d (args : Array Value) (w : World) : (callFunc 38 args).run Tryd.prog w = .ok (.enter 38 args) w := by kernel_rfl
theorem wlist_d {c : Nat → Nat} {b : Nat} {ys : List Int} {o k x cc y : Int} (hW : WList c) (hD : ∀ B W v, IsL B W v (lst c) → Calls Tryd.prog 38 #[v, .agg #[.int .i64 o, .int .i64 k, .int .i64 x]] W (Made W ys cc y)) (hl : ys.length ≤ 6) (hv : ∀ z ∈ ys, 0 ≤ z ∧ z ≤ 4294967295) (w : World) (hb : Bo w b [fv 38]) :
    Calls Tryd.prog 50 #[.agg (wl c).toArray, .agg #[.int .i64 o, .int .i64 k, .int .i64 x], .pointer (some ⟨b, 0, none⟩)] w (fun e w' => e = .returned (.tuple #[.agg (wl (lw ys)).toArray, .agg #[.int .i64 cc, .int .i64 y]]) ∧ Below w.heap.size w w') := wlist_any he_d hW hD hl hv w hb
theorem he_h (args : Array Value) (w : World) : (callFunc 39 args).run Tryd.prog w = .ok (.enter 39 args) w := by kernel_rfl
theorem wlist_h {c : Nat → Nat} {b : Nat} {ys : List Int} {o k x cc y : Int} (hW : WList c) (hD : ∀ B W v, IsL B W v (lst c) → Calls Tryd.prog 39 #[v, .agg #[.int .i64 o, .int .i64 k, .int .i64 x]] W (Made W ys cc y)) (hl : ys.length ≤ 6) (hv : ∀ z ∈ ys, 0 ≤ z ∧ z ≤ 4294967295) (w : World) (hb : Bo w b [fv 39]) :
    Calls Tryd.prog 50 #[.agg (wl c).toArray, .agg #[.int .i64 o, .int .i64 k, .int .i64 x], .pointer (some ⟨b, 0, none⟩)] w (fun e w' => e = .returned (.tuple #[.agg (wl (lw ys)).toArray, .agg #[.int .i64 cc, .int .i64 y]]) ∧ Below w.heap.size w w') := wlist_any he_h hW hD hl hv w hb
end Go.Proofs.YtbmgjpdfmgcigabDoor.Tab
namespace Go.Proofs.YtbmgjpdfmgcigabDoor.Tab
set_option maxRecDepth 20000
open Go.RowKit
set_option linter.unusedVariables false

theorem he_list (args : Array Value) (w : World) : (callFunc 50 args).run Tryd.prog w = .ok (.enter 50 args) w := by kernel_rfl
theorem he_table (args : Array Value) (w : World) : (callFunc 40 args).run Tryd.prog w = .ok (.enter 40 args) w := by kernel_rfl
theorem he_tally (args : Array Value) (w : World) : (callFunc 41 args).run Tryd.prog w = .ok (.enter 41 args) w := by kernel_rfl
theorem wl_tyw (r : Nat) : wl (upw wz 0 r) = wl (tyw (r : Nat)) := wl_congr fun j hj => by
  unfold upw tyw wz
  by_cases e : j = 0
  · subst e; simp
  · rw [if_neg e, if_neg e]

def ptr (b : Nat) : Array Value := #[.pointer (some ⟨b, 0, none⟩)]
theorem obDo_is {kind o k x : Int} {c : Nat → Nat} (hO : isOb kind c) (hR : Rt o k x) (w : World) :
    Calls Tryd.prog 6 #[.int .i64 kind, .agg (wl c).toArray, .agg #[.int .i64 o, .int .i64 k, .int .i64 x]] w (DidD w (odo kind c o k x).1 (odo kind c o k x).2.1 (odo kind c o k x).2.2) := by
  obtain ⟨b1, b6⟩ := isOb_kind hO
  by_cases e5 : kind = 5
  · subst e5
    obtain ⟨h1, h2, h3⟩ : WTab c := by
      rcases hO with ⟨hk, _⟩ | ⟨hk, _⟩ | ⟨_, h⟩ | ⟨hk, _⟩ <;> first | exact h | omega
    have f := tdo_facts h3 hR.w1 hR.w6 hR.k0 hR.k1 hR.v0 hR.v1
    have e : odo 5 c o k x = (tw (tdo (tbl c) o k x).1, (tdo (tbl c) o k x).2) := by rw [odo, if_pos rfl]
    rw [e]
    refine obDo_any (cp := fun _ _ _ _ => #[]) he_table hR hO (fun u m b1 b2 b3 b4 D => D.mp.look 5 (by decide) (by decide) (deeds_5 b1 b2 b3 b4)) (fun u m b1 b2 b3 b4 D => ?_) w
    exact withTable_is (u := (tdo (tbl c) o k x).1) (cc := (tdo (tbl c) o k x).2.1) (y := (tdo (tbl c) o k x).2.2) (fun j hj => by have := upC_all h1 (j := j) (by omega) (by omega); omega) rfl (fun i hi => by have := f.rt.keys i hi; omega) (fun i hi => f.rt.vals i hi) u
  by_cases e6 : kind = 6
  · subst e6
    have h1 : isTb c = true := by
      rcases hO with ⟨hk, _⟩ | ⟨hk, _⟩ | ⟨hk, _⟩ | ⟨_, h⟩ <;> first | exact h | omega
    have hc : 0 ≤ ((c 0 : Nat) : Int) ∧ ((c 0 : Nat) : Int) ≤ 4294967295 := by
      unfold isTb at h1
      simp only [Bool.and_eq_true] at h1
      have := upC_all h1.1 (j := 0) (by omega) (by omega)
      omega
    have f := ado_facts hc.1 hc.2 hR.w1 hR.w6 hR.v0 hR.v1
    have e : odo 6 c o k x = (tyw (ado (c 0) o x).1, (ado (c 0) o x).2) := by rw [odo, if_neg (by decide), if_pos rfl]
    rw [e]
    refine obDo_any (cp := fun _ _ _ _ => #[]) he_tally hR hO (fun u m b1 b2 b3 b4 D => D.mp.look 6 (by decide) (by decide) (deeds_6 b1 b2 b3 b4)) (fun u m b1 b2 b3 b4 D => ?_) w
    have hr : (((ado (c 0) o x).1.toNat : Nat) : Int) = (ado (c 0) o x).1 := by have := f.rt.1; omega
    have := withTally_is (c := c) (m := c 0) (r := (ado (c 0) o x).1.toNat) (o := o) (k := k) (x := x) (cc := (ado (c 0) o x).2.1) (y := (ado (c 0) o x).2.2) rfl (by omega) hR.v0 hR.v1 (by have := f.rt.2; omega) (by rw [hr]) u
    rw [wl_tyw, hr] at this
    exact this
  have h4 : kind ≤ 4 := by omega
  obtain ⟨hb, hp⟩ := isOb_list h4 hO
  have hw := isLb_w hb
  have h6 : (lst c).length ≤ 6 := by rw [lst_length]; exact hw.len
  obtain ⟨f, g⟩ := ldo_facts (k := k) b1 h4 h6 (lst_val hw) hp hR.w1 hR.w6 hR.v0 hR.v1
  have e : odo kind c o k x = (lw (ldo kind (lst c) o x).1, (ldo kind (lst c) o x).2) := by rw [odo, if_neg e5, if_neg e6]
  rw [e]
  have : kind = 1 ∨ kind = 2 ∨ kind = 3 ∨ kind = 4 := by omega
  rcases this with rfl | rfl | rfl | rfl
  · exact obDo_any (cp := fun b1 _ _ _ => ptr b1) he_list hR hO (fun u m b1 b2 b3 b4 D => D.mp.look 1 (by decide) (by decide) (deeds_1 b1 b2 b3 b4)) (fun u m b1 b2 b3 b4 D => wlist_q hw (fun B W v h => qDo_eq k h (by omega) rfl) f.len f.val u D.q) w
  · exact obDo_any (cp := fun _ b2 _ _ => ptr b2) he_list hR hO (fun u m b1 b2 b3 b4 D => D.mp.look 2 (by decide) (by decide) (deeds_2 b1 b2 b3 b4)) (fun u m b1 b2 b3 b4 D => wlist_s hw (fun B W v h => sDo_eq k h (by omega) rfl) f.len f.val u D.s) w
  · exact obDo_any (cp := fun _ _ b3 _ => ptr b3) he_list hR hO (fun u m b1 b2 b3 b4 D => D.mp.look 3 (by decide) (by decide) (deeds_3 b1 b2 b3 b4)) (fun u m b1 b2 b3 b4 D => wlist_d hw (fun B W v h => dDo_eq k h (by omega) rfl) f.len f.val u D.d) w
  · exact obDo_any (cp := fun _ _ _ b4 => ptr b4) he_list hR hO (fun u m b1 b2 b3 b4 D => D.mp.look 4 (by decide) (by decide) (deeds_4 b1 b2 b3 b4)) (fun u m b1 b2 b3 b4 D => wlist_h hw (fun B W v h => hDo_eq k h (by omega) rfl) f.len f.val u D.h) w
theorem obDo_no {kind o k x : Int} {c : Nat → Nat} (h : ¬ (Rt o k x ∧ isOb kind c)) (w : World) :
    Calls Tryd.prog 6 #[.int .i64 kind, .agg (wl c).toArray, .agg #[.int .i64 o, .int .i64 k, .int .i64 x]] w (Refd w) := by
  by_cases hR : Rt o k x
  · exact obDo_isnt hR (fun hO => h ⟨hR, hO⟩) w
  · exact obDo_wrong hR w
end Go.Proofs.YtbmgjpdfmgcigabDoor.Tab
namespace Go.Proofs.YtbmgjpdfmgcigabDoor.Tab
set_option maxRecDepth 20000
open Go.RowKit
set_option linter.unusedVariables false

set_option maxHeartbeats 2000000 in
theorem obSize_is {kind : Int} {c : Nat → Nat} (hO : isOb kind c) (w : World) :
    Calls Tryd.prog 12 #[.int .i64 kind, .agg (wl c).toArray] w (fun e w' => e = .returned (.tuple #[.int .i64 (osz kind c), .nilIface]) ∧ Below w.heap.size w w') := by
  obtain ⟨d, cc, y, hd, ho⟩ : ∃ d cc y, odo kind c 6 0 0 = (d, cc, y) ∧ (cc = 1 ∧ y = osz kind c) := ⟨_, _, _, rfl, (odo_facts (k := 0) (x := 0) hO (show (1 : Int) ≤ 6 by decide) (by decide) (by decide) (by decide) (by decide) (by decide)).count rfl⟩
  obtain ⟨rfl, rfl⟩ := ho
  have D : Hid (∀ w : World, Calls Tryd.prog 6 #[.int .i64 kind, .agg (wl c).toArray, .agg #[.int .i64 6, .int .i64 0, .int .i64 0]] w (DidD w d 1 (osz kind c))) := fun w => by have := obDo_is hO (o := 6) (k := 0) (x := 0) ⟨by decide, by decide, by decide, by decide, by decide, by decide⟩ w; rw [hd] at this; exact this
  clear hO hd
  have hM : Hid _ := ((Ms.nil w).born (wl c) 24 (b := w.heap.size) rfl)
  go_enter Tryd.func12, Tryd.ntmps12
  go_wp2_with (first
    | (refine lR rfl (hM.out.at 0 rfl) rfl (rwC c) ?_))
  generalize World.alloc _ _ = W at hM ⊢
  generalize hsz : w.heap.size = n at hM ⊢
  clear hsz
  refine (D.out _).mono ?_
  rintro e W ⟨rfl, hb⟩
  replace hM := hid (hM.out.later hb)
  clear hb
  obtain ⟨b1, hb1⟩ : ∃ q, q = W.heap.size := ⟨_, rfl⟩
  replace hM := hid ((hM.out.bornR wz_all.symm 24 hb1).born [.int .i64 0, .int .i64 0] 38 (b := b1 + 1) (by simp [hb1]))
  have HB : Hid _ := hb1
  clear hb1
  go_wp2_with (first
    | (rw [← HB.out]; refine sR rfl (hM.out.at 1 rfl) rfl ((rwC wz).len (rwC d)) (rwC d) ?_
       replace hM := hid (hM.out.put 1 rfl (wl d) ((rwC wz).len (rwC d)))
       generalize World.setCells _ _ _ _ = W at hM ⊢)
    | (refine sR rfl (hM.out.at 0 rfl) rfl ((rwA 0 0).len (rwA 1 (osz kind c))) (rwA 1 (osz kind c)) ?_
       replace hM := hid (hM.out.put 0 rfl [.int .i64 1, .int .i64 (osz kind c)] ((rwA 0 0).len (rwA 1 (osz kind c))))
       generalize World.setCells _ _ _ _ = W at hM ⊢
       have c1 := hM.out.cell 0 1 rfl rfl))
  go_ret2
  exact ⟨rfl, hM.out.below⟩
set_option maxHeartbeats 2000000 in
theorem obSize_no {kind : Int} {c : Nat → Nat} (hO : ¬ isOb kind c) (w : World) :
    Calls Tryd.prog 12 #[.int .i64 kind, .agg (wl c).toArray] w (fun e w' => e = .returned (.tuple #[.int .i64 0, .iface 45 (.int .i64 1)]) ∧ Below w.heap.size w w') := by
  have D : Hid (∀ w : World, Calls Tryd.prog 6 #[.int .i64 kind, .agg (wl c).toArray, .agg #[.int .i64 6, .int .i64 0, .int .i64 0]] w (Refd w)) := fun w => obDo_no (fun h => hO h.2) w
  clear hO
  have hM : Hid _ := ((Ms.nil w).born (wl c) 24 (b := w.heap.size) rfl)
  go_enter Tryd.func12, Tryd.ntmps12
  go_wp2_with (first
    | (refine lR rfl (hM.out.at 0 rfl) rfl (rwC c) ?_))
  generalize World.alloc _ _ = W at hM ⊢
  generalize hsz : w.heap.size = n at hM ⊢
  clear hsz
  refine (D.out _).mono ?_
  rintro e W ⟨rfl, hb⟩
  replace hM := hid (hM.out.later hb)
  clear hb
  obtain ⟨b1, hb1⟩ : ∃ q, q = W.heap.size := ⟨_, rfl⟩
  replace hM := hid ((hM.out.bornR wz_all.symm 24 hb1).born [.int .i64 0, .int .i64 0] 38 (b := b1 + 1) (by simp [hb1]))
  have HB : Hid _ := hb1
  clear hb1
  go_wp2_with (first
    | (rw [← HB.out]; refine sR rfl (hM.out.at 1 rfl) rfl ((rwC wz).len (rwC wz)) (rwC wz) ?_
       replace hM := hid (hM.out.put 1 rfl (wl wz) ((rwC wz).len (rwC wz)))
       generalize World.setCells _ _ _ _ = W at hM ⊢)
    | (refine sR rfl (hM.out.at 0 rfl) rfl ((rwA 0 0).len (rwA 0 0)) (rwA 0 0) ?_
       replace hM := hid (hM.out.put 0 rfl [.int .i64 0, .int .i64 0] ((rwA 0 0).len (rwA 0 0)))
       generalize World.setCells _ _ _ _ = W at hM ⊢
       have c1 := hM.out.cell 0 1 rfl rfl))
  go_ret2
  exact ⟨rfl, hM.out.below⟩
end Go.Proofs.YtbmgjpdfmgcigabDoor.Tab
namespace Go.Proofs.YtbmgjpdfmgcigabDoor.Tab
set_option maxRecDepth 20000
open Go.RowKit
set_option linter.unusedVariables false

def cpw (d : Nat → Nat) (i : Nat) : Nat → Nat := fun j => if j < i then d j else 0
theorem cpw_zero (d : Nat → Nat) : wl (cpw d 0) = wl wz := wl_congr fun j _ => by simp [cpw, wz]
theorem cpw_all (d : Nat → Nat) : wl (cpw d 17) = wl d := wl_congr fun j hj => by unfold cpw; rw [if_pos hj]
theorem cpw_next (d : Nat → Nat) (i : Nat) : wl (upw (cpw d i) i (d i)) = wl (cpw d (i + 1)) := wl_congr fun j _ => by
  unfold upw cpw
  by_cases e : j = i
  · subst e; rw [if_pos rfl, if_pos (by omega)]
  · rw [if_neg e]
    by_cases h : j < i
    · rw [if_pos h, if_pos (by omega)]
    · rw [if_neg h, if_neg (by omega)]

set_option maxHeartbeats 2000000 in
theorem cellsOf_is {b o k : Nat} {d : Nat → Nat} {w : World} (h : Wf w b o d) :
    Calls Tryd.prog 10 #[.slice (some ⟨b, o, none⟩) 17 k] w fun e w' => e = .returned (.agg (wl d).toArray) ∧ Below w.heap.size w w' := by
  obtain ⟨nb, eb, hd⟩ := cells_array
  have HC : Hid _ := hd
  clear hd
  have HCS : Hid _ := cells_size
  have HCZ : Hid _ := cells_size2
  have hb := h.lt
  have S : Hid (Wf ((w.alloc (.cells (wl wz).toArray 24)).alloc (.cells (wl wz).toArray 24)) b o d) := (h.new _).new _
  have R : Hid (Bo ((w.alloc (.cells (wl wz).toArray 24)).alloc (.cells (wl wz).toArray 24)) w.heap.size (wl wz)) := (Bo.born w (wl wz) _ rfl).new _
  have T : Hid (Bo ((w.alloc (.cells (wl wz).toArray 24)).alloc (.cells (wl wz).toArray 24)) (w.heap.size + 1) (wl (cpw d 0))) := by rw [cpw_zero]; exact Bo.born _ (wl wz) _ (by simp)
  have G : Hid (Gd w.heap.size w ((w.alloc (.cells (wl wz).toArray 24)).alloc (.cells (wl wz).toArray 24))) := ((Gd.refl w).new _).new _
  have NX : Hid (∀ i, _) := fun i => cpw_next d i
  have AL : Hid _ := cpw_all d
  rw [wz_all] at S R T G
  clear h
  go_enter Tryd.func10, Tryd.ntmps10
  go_wp2_with fail
  generalize World.alloc _ _ = W at S R T G ⊢
  generalize hsz : w.heap.size = n at hb S R T G ⊢
  have HSZ : Hid (w.heap.size = n) := hsz
  clear hsz
  go_loopg [4] 17 (fun gg s4 wt => ∃ i : Nat, i ≤ 17 ∧ 17 - i ≤ gg ∧ s4 = .int .i64 i ∧ Hid (Wf wt b o d) ∧ Hid (Bo wt n (wl wz)) ∧ Hid (Bo wt (n + 1) (wl (cpw d i))) ∧ Hid (Gd n w wt))
  case atStart => exact ⟨0, by omega, by omega, rfl, S, R, T, G⟩
  case round =>
    clear S R T G
    obtain ⟨i, hi, hgg, rfl, S, R, T, G⟩ := hrel
    by_cases hlt : i < 17
    · have g0 := S.out.cell i hlt
      have c1 := T.out.word hlt
      have f1 := T.out.froz i
      have i1 : (i : Int) < 17 := by omega
      have i0 : (0 : Int) ≤ (i : Int) := by omega
      have NI : Hid _ := NX.out i
      have S1 : Hid (Wf (wr.setCell ⟨n + 1, i, none⟩ (.int .u64 (d i : Nat))) b o d) := S.out.aside (by simp; omega) _
      have R1 : Hid (Bo (wr.setCell ⟨n + 1, i, none⟩ (.int .u64 (d i : Nat))) n (wl wz)) := R.out.aside (by simp) _
      have T1 : Hid (Bo (wr.setCell ⟨n + 1, i, none⟩ (.int .u64 (d i : Nat))) (n + 1) (wl (cpw d (i + 1)))) := by rw [← NI.out]; exact T.out.setw _ hlt
      have G1 : Hid (Gd n w (wr.setCell ⟨n + 1, i, none⟩ (.int .u64 (d i : Nat)))) := G.out.aside (by simp) _
      clear S R T G NI
      generalize cpw d i i = z at c1
      go_wp2
      go_roundg (17 - (i + 1))
      case measure => omega
      case rel => exact ⟨i + 1, by omega, by omega, by go_num, S1, R1, T1, G1⟩
    · obtain rfl : i = 17 := by omega
      rw [AL.out] at T
      go_wp2_with (first
        | (refine wpList_load_mid rfl 24 _ rfl (n + 1) _ rfl (wl d) _ T.out.range HC.out rfl (HCS.out d) ?_)
        | (refine wpList_store_mid rfl 24 _ _ rfl n _ (wl d).toArray rfl rfl (R.out.thereW d) (HCZ.out d) (wl_all d) ?_
           have R1 : Hid (Bo (wr.setCells n 0 (wl d)) n (wl d)) := R.out.setW d
           have G1 : Hid (Gd n w (wr.setCells n 0 (wl d))) := G.out.asideL (by omega) _ _
           clear T R G S
           generalize wr.setCells n 0 (wl d) = V at R1 G1 ⊢))
      exact bodyPost_ret (results_row Tryd.results10 _ _ n (wl d) _ rfl R1.out.range HC.out rfl (HCS.out d)) rfl ⟨rfl, G1.out.2⟩
end Go.Proofs.YtbmgjpdfmgcigabDoor.Tab
namespace Go.Proofs.YtbmgjpdfmgcigabDoor
set_option maxRecDepth 20000
open Go.RowKit Go.Extern.Stop Go.Stop Go.Extern

theorem As.valueOfP (t : Addr) (w : World) : (ReflectliteValue.unpack (.iface 102 (.pointer (some t)))).run Tryd.prog w
    = .ok (.agg #[.pointer (some ⟨1, 102, none⟩), .pointer (some ⟨w.heap.size, 0, none⟩), .int .u64 150]) (w.alloc (.cells #[.pointer (some t)] 102)) := by kernel_rfl
theorem As.typeP (a : Addr) (w : World) : (ReflectliteValue.methodAny (ReflectliteValue.valueError "reflectlite.Value.Type" 0) (fun t _ _ _ => ReflectliteType.toType t) #[.agg #[.pointer (some ⟨1, 102, none⟩), .pointer (some a), .int .u64 150]]).run Tryd.prog w
    = .ok (.iface 128 (.agg #[.pointer (some ⟨1, 102, none⟩)])) w := by kernel_rfl
theorem As.methodKind (h : Value) (w : World) : (Go.method 270 128 (.agg #[h]) "Kind").run Tryd.prog w = .ok (96, h) w := by kernel_rfl
theorem As.kindP (w : World) : ((ReflectliteType.abiMethod fun t => (fun a : Nat => Value.int IntKind.u8 (a : Int)) <$> Rtype.kind t) #[.pointer (some ⟨1, 102, none⟩)]).run Tryd.prog w = .ok (.int .u8 22) w := by kernel_rfl
theorem As.kindE (w : World) : ((ReflectliteType.abiMethod fun t => (fun a : Nat => Value.int IntKind.u8 (a : Int)) <$> Rtype.kind t) #[.pointer (some ⟨1, 45, none⟩)]).run Tryd.prog w = .ok (.int .u8 2) w := by kernel_rfl

theorem As.partsP (a : Addr) (w : World) : (ReflectliteValue.parts (.agg #[.pointer (some ⟨1, 102, none⟩), .pointer (some a), .int .u64 150])).run Tryd.prog w = .ok (some (102, a, 150)) w := by kernel_rfl
theorem As.isNilP (a p : Addr) (W : World) (ha : W.cell? a = some (.pointer (some p))) :
    (ReflectliteValue.method (ReflectliteValue.valueError "reflectlite.Value.IsNil" 0) ReflectliteValue.isNil #[.agg #[.pointer (some ⟨1, 102, none⟩), .pointer (some a), .int .u64 150]]).run Tryd.prog W = .ok (.bool false) W := by
  delta ReflectliteValue.method ReflectliteValue.method.match_2
  simp [Array.getLit, As.partsP, ReflectliteValue.isNil, loadVar, isAgg, underlying, Tryd.underlying102, ha, Result.andThen]

theorem As.methodElem (h : Value) (w : World) : (Go.method 270 128 (.agg #[h]) "Elem").run Tryd.prog w = .ok (108, .agg #[h]) w := by kernel_rfl
theorem As.methodImplements (h : Value) (w : World) : (Go.method 270 128 (.agg #[h]) "Implements").run Tryd.prog w = .ok (109, .agg #[h]) w := by kernel_rfl
theorem As.methodAssignableTo (h : Value) (w : World) : (Go.method 270 128 (.agg #[h]) "AssignableTo").run Tryd.prog w = .ok (106, .agg #[h]) w := by kernel_rfl
theorem As.elemP (w : World) : (ReflectliteType.method ReflectliteType.elem #[.agg #[.pointer (some ⟨1, 102, none⟩)]]).run Tryd.prog w = .ok (.iface 128 (.agg #[.pointer (some ⟨1, 45, none⟩)])) w := by kernel_rfl
theorem As.implementsE (w : World) : (ReflectliteType.relation "Implements" ReflectliteType.implements_ #[.agg #[.pointer (some ⟨1, 45, none⟩)], .iface 128 (.agg #[.pointer (some ⟨1, 40, none⟩)])]).run Tryd.prog w = .ok (.bool true) w := by kernel_rfl
theorem As.typeOfE (v : Value) (w : World) : (ReflectliteType.typeOf #[.iface 45 v]).run Tryd.prog w = .ok (.iface 128 (.agg #[.pointer (some ⟨1, 45, none⟩)])) w := by kernel_rfl
theorem As.assignableE (w : World) : (ReflectliteType.relation "AssignableTo" ReflectliteType.assignableTo #[.agg #[.pointer (some ⟨1, 45, none⟩)], .iface 128 (.agg #[.pointer (some ⟨1, 45, none⟩)])]).run Tryd.prog w = .ok (.bool true) w := by kernel_rfl
theorem As.valueOfE (n : Int) (w : World) : (ReflectliteValue.unpack (.iface 45 (.int .i64 n))).run Tryd.prog w
    = .ok (.agg #[.pointer (some ⟨1, 45, none⟩), .pointer (some ⟨w.heap.size, 0, none⟩), .int .u64 130]) (w.alloc (.cells #[.int .i64 n] 45)) := by kernel_rfl
theorem As.elemOfP (w : World) : (Rtype.elem? 102).run Tryd.prog w = .ok (some 45) w := by kernel_rfl
theorem As.mkE (p : Addr) (w : World) : (ReflectliteValue.mk 45 p ReflectliteValue.flagAddr).run Tryd.prog w = .ok (.agg #[.pointer (some ⟨1, 45, none⟩), .pointer (some p), .int .u64 386]) w := by kernel_rfl
theorem As.elemVP (a p : Addr) (W : World) (ha : W.cell? a = some (.pointer (some p))) :
    (ReflectliteValue.method (ReflectliteValue.valueError "reflectlite.Value.Elem" 0) ReflectliteValue.elem #[.agg #[.pointer (some ⟨1, 102, none⟩), .pointer (some a), .int .u64 150]]).run Tryd.prog W
      = .ok (.agg #[.pointer (some ⟨1, 45, none⟩), .pointer (some p), .int .u64 386]) W := by
  delta ReflectliteValue.method ReflectliteValue.method.match_2
  simp [Array.getLit, As.partsP, ReflectliteValue.elem, loadVar, isAgg, underlying, Tryd.underlying102, ha, Result.andThen, As.elemOfP, As.mkE]
theorem As.partsEa (a : Addr) (w : World) : (ReflectliteValue.parts (.agg #[.pointer (some ⟨1, 45, none⟩), .pointer (some a), .int .u64 386])).run Tryd.prog w = .ok (some (45, a, 386)) w := by kernel_rfl
theorem As.partsE (a : Addr) (w : World) : (ReflectliteValue.parts (.agg #[.pointer (some ⟨1, 45, none⟩), .pointer (some a), .int .u64 130])).run Tryd.prog w = .ok (some (45, a, 130)) w := by kernel_rfl
theorem As.directE (w : World) : (Rtype.directlyAssignable 45 45).run Tryd.prog w = .ok true w := by kernel_rfl
theorem As.setE (ta b : Addr) (n : Int) (old : Value) (W : World) (hb : W.cell? b = some (.int .i64 n)) (ht : W.cell? ta = some old) (hf : W.frozen? ta = false) :
    (ReflectliteValue.set #[.agg #[.pointer (some ⟨1, 45, none⟩), .pointer (some ta), .int .u64 386], .agg #[.pointer (some ⟨1, 45, none⟩), .pointer (some b), .int .u64 130]]).run Tryd.prog W
      = .ok (.tuple #[]) (W.setCell ta (.int .i64 n)) := by
  delta ReflectliteValue.set ReflectliteValue.set.match_3
  simp [Array.getLit, As.partsEa, As.partsE, ReflectliteValue.flagAddr, loadVar, isAgg, underlying, Tryd.underlying45, hb, Result.andThen, As.directE, storeVar, Value.cells, storeCells, Addr.add]
  rw [run_store Tryd.prog W ta _ _ (by rfl)]
  simp [ht, hf]

set_option maxHeartbeats 4000000 in
theorem as_errno (n : Int) (t : Addr) (old : Value) (w : World) (hg : w.cell? ⟨0, 0, none⟩ = some (.iface 128 (.agg #[.pointer (some ⟨1, 40, none⟩)]))) (ht0 : w.cell? t = some old) (hf0 : w.frozen? t = false) :
    Calls Tryd.prog 61 #[.iface 45 (.int .i64 n), .iface 102 (.pointer (some t))] w fun ev w' => ev = .returned (.bool true) ∧ w' = ((((w.alloc (.cells #[.pointer (some t)] 102)).alloc (.cells #[.pointer (some ⟨1, 102, none⟩), .pointer (some ⟨w.heap.size, 0, none⟩), .int .u64 150] 114)).alloc (.cells #[.pointer (some ⟨1, 102, none⟩), .pointer (some ⟨w.heap.size, 0, none⟩), .int .u64 150] 114)).alloc (.cells #[.int .i64 n] 45)).setCell t (.int .i64 n) := by
  have hF0 := @run_callFunc_extern Tryd.prog 72 _ (fun args => ReflectliteValue.unpack (args.getD 0 (.tuple #[]))) Tryd.func72 (by kernel_rfl) (by kernel_rfl) (by kernel_rfl) (by kernel_rfl)
  have hF1 := @run_callFunc_extern Tryd.prog 73 _ (ReflectliteValue.methodAny (ReflectliteValue.valueError "reflectlite.Value.Type" 0) (fun t _ _ _ => ReflectliteType.toType t)) Tryd.func73 (by kernel_rfl) (by kernel_rfl) (by kernel_rfl) (by kernel_rfl)
  have hF2 := @run_callFunc_extern Tryd.prog 74 _ (ReflectliteValue.method (ReflectliteValue.valueError "reflectlite.Value.IsNil" 0) ReflectliteValue.isNil) Tryd.func74 (by kernel_rfl) (by kernel_rfl) (by kernel_rfl) (by kernel_rfl)
  have hF3 := @run_callFunc_extern Tryd.prog 96 _ (ReflectliteType.abiMethod fun t => do pure (.int .u8 (← Rtype.kind t))) Tryd.func96 (by kernel_rfl) (by kernel_rfl) (by kernel_rfl) (by kernel_rfl)
  have hF4 := @run_callFunc_extern Tryd.prog 108 _ (ReflectliteType.method ReflectliteType.elem) Tryd.func108 (by kernel_rfl) (by kernel_rfl) (by kernel_rfl) (by kernel_rfl)
  have hF5 := @run_callFunc_extern Tryd.prog 109 _ (ReflectliteType.relation "Implements" ReflectliteType.implements_) Tryd.func109 (by kernel_rfl) (by kernel_rfl) (by kernel_rfl) (by kernel_rfl)
  have hF6 := @run_callFunc_extern Tryd.prog 79 _ ReflectliteType.typeOf Tryd.func79 (by kernel_rfl) (by kernel_rfl) (by kernel_rfl) (by kernel_rfl)
  have hF7 := @run_callFunc_extern Tryd.prog 106 _ (ReflectliteType.relation "AssignableTo" ReflectliteType.assignableTo) Tryd.func106 (by kernel_rfl) (by kernel_rfl) (by kernel_rfl) (by kernel_rfl)
  have hF8 := @run_callFunc_extern Tryd.prog 80 _ (ReflectliteValue.method (ReflectliteValue.valueError "reflectlite.Value.Elem" 0) ReflectliteValue.elem) Tryd.func80 (by kernel_rfl) (by kernel_rfl) (by kernel_rfl) (by kernel_rfl)
  have hF9 := @run_callFunc_extern Tryd.prog 81 _ ReflectliteValue.set Tryd.func81 (by kernel_rfl) (by kernel_rfl) (by kernel_rfl) (by kernel_rfl)
  have tO := As.typeOfE
  have mA := As.methodAssignableTo
  have aE := As.assignableE
  have vE := As.valueOfE
  have vP := As.valueOfP
  have tP := As.typeP
  have mK := As.methodKind
  have mE := As.methodElem
  have mI := As.methodImplements
  have kP := As.kindP
  have kE := As.kindE
  have eP := As.elemP
  have iE := As.implementsE
  have n8 := As.isNilP ⟨w.heap.size, 0, none⟩ t ((w.alloc (.cells #[.pointer (some t)] 102)).alloc (.cells #[.pointer (some ⟨1, 102, none⟩), .pointer (some ⟨w.heap.size, 0, none⟩), .int .u64 150] 114)) (by simp)
  have hlt : 0 < w.heap.size := by
    rcases Nat.lt_or_ge 0 w.heap.size with h | h
    · exact h
    · simp [World.cell?, Array.getElem?_eq_none h] at hg
  have hg2 : ((w.alloc (.cells #[.pointer (some t)] 102)).alloc (.cells #[.pointer (some ⟨1, 102, none⟩), .pointer (some ⟨w.heap.size, 0, none⟩), .int .u64 150] 114)).cell? ⟨0, 0, none⟩ = some (.iface 128 (.agg #[.pointer (some ⟨1, 40, none⟩)])) := by
    rw [World.cell?_alloc_lt _ _ ⟨0, 0, none⟩ (by simp <;> omega), World.cell?_alloc_lt _ _ ⟨0, 0, none⟩ hlt]; exact hg
  have htl : t.block < w.heap.size := by
    rcases Nat.lt_or_ge t.block w.heap.size with h | h
    · exact h
    · simp [World.cell?, Array.getElem?_eq_none h] at ht0
  have el := As.elemVP ⟨w.heap.size, 0, none⟩ t (((w.alloc (.cells #[.pointer (some t)] 102)).alloc (.cells #[.pointer (some ⟨1, 102, none⟩), .pointer (some ⟨w.heap.size, 0, none⟩), .int .u64 150] 114)).alloc (.cells #[.pointer (some ⟨1, 102, none⟩), .pointer (some ⟨w.heap.size, 0, none⟩), .int .u64 150] 114)) (by rw [World.cell?_alloc_lt _ _ ⟨w.heap.size, 0, none⟩ (by simp; omega)]; simp)
  have st := As.setE t ⟨w.heap.size + 1 + 1 + 1, 0, none⟩ n old ((((w.alloc (.cells #[.pointer (some t)] 102)).alloc (.cells #[.pointer (some ⟨1, 102, none⟩), .pointer (some ⟨w.heap.size, 0, none⟩), .int .u64 150] 114)).alloc (.cells #[.pointer (some ⟨1, 102, none⟩), .pointer (some ⟨w.heap.size, 0, none⟩), .int .u64 150] 114)).alloc (.cells #[.int .i64 n] 45))
    (by rw [World.cell?_alloc_at _ _ _ _ (by simp)]; rfl)
    (by rw [World.cell?_alloc_lt _ _ t (by simp; omega), World.cell?_alloc_lt _ _ t (by simp; omega), World.cell?_alloc_lt _ _ t (by simp; omega), World.cell?_alloc_lt _ _ t htl]; exact ht0)
    (by rw [World.frozen?_alloc_old _ _ t (by simp; omega), World.frozen?_alloc_old _ _ t (by simp; omega), World.frozen?_alloc_old _ _ t (by simp; omega), World.frozen?_alloc_old _ _ t (Nat.ne_of_lt htl)]; exact hf0)
  go_enter Tryd.func61, Tryd.ntmps61
  go_wp2
  refine wp_loop_rounds 1 ?_
  rw [rounds_succ]
  go_wp2
  go_ret
  exact ⟨rfl, rfl⟩
end Go.Proofs.YtbmgjpdfmgcigabDoor
namespace Go.Proofs.YtbmgjpdfmgcigabDoor
set_option maxRecDepth 20000
open Go.RowKit

/-- The library's handle of the type error in its variable. -/
def HandleAt (w : World) : Prop := w.cell? ⟨0, 0, none⟩ = some (.iface 128 (.agg #[.pointer (some ⟨1, 40, none⟩)]))

theorem size_of_cell' {w : World} {b o : Nat} {v : Value} (h : w.cell? ⟨b, o, none⟩ = some v) : b < w.heap.size := by
  by_cases hb : b < w.heap.size
  · exact hb
  · have e : w.heap[b]? = none := by simp; omega
    simp [World.cell?, e] at h

theorem HandleAt.later {w w' : World} (h : HandleAt w) (g : Gr w w') : HandleAt w' := (g.cell (size_of_cell' h)).trans h

theorem tell_nil (w : World) : Calls Tryd.prog 42 #[.nilIface] w fun e w' => e = .returned (.int .i64 0) ∧ w' = w := by
  go_enter Tryd.func42, Tryd.ntmps42
  go_wp2
  go_ret
  exact ⟨rfl, rfl⟩

theorem as_errno' (n : Int) (t : Addr) (old : Value) (w : World) (hg : HandleAt w) (ht0 : w.cell? t = some old) (hf0 : w.frozen? t = false) :
    Calls Tryd.prog 61 #[.iface 45 (.int .i64 n), .iface 102 (.pointer (some t))] w fun e w' => e = .returned (.bool true) ∧ ∃ W, Gr w W ∧ w' = W.setCell t (.int .i64 n) :=
  (as_errno n t old w hg ht0 hf0).mono fun _ _ ⟨he, hw⟩ => ⟨he, _, ((((Gr.refl w).alloc _ _).alloc _ _).alloc _ _).alloc _ _, hw⟩

theorem tell_errno (n : Int) (w : World) (hH : HandleAt w) :
    Calls Tryd.prog 42 #[.iface 45 (.int .i64 n)] w fun e w' => e = .returned (.int .i64 n) ∧ Gr w w' := by
  have H1 : Hid (HandleAt (w.alloc (.cells #[.int .i64 0] 45))) := hH.later ((Gr.refl w).alloc _ _)
  clear hH
  go_enter Tryd.func42, Tryd.ntmps42
  go_wp2_with fail
  refine (as_errno' n ⟨w.heap.size, 0, none⟩ (.int .i64 0) _ H1.out (by simp) ((frozen?_alloc_cells _ _ _ _).trans (frozen_past w (Nat.le_refl _)))).mono ?_
  rintro e w' ⟨rfl, W, hW, rfl⟩
  have hc : (W.setCell ⟨w.heap.size, 0, none⟩ (.int .i64 n)).cell? ⟨w.heap.size, 0, none⟩ = some (.int .i64 n) := by
    refine World.cell?_setCell_same _ _ _ (u := .int .i64 0) ?_
    rw [hW.cell (by simp)]
    simp
  have hG : Gr w (W.setCell ⟨w.heap.size, 0, none⟩ (.int .i64 n)) := (((Gr.refl w).alloc _ _).trans hW).setCell (Nat.le_refl _) _
  generalize W.setCell ⟨w.heap.size, 0, none⟩ (.int .i64 n) = W2 at hc hG
  clear hW H1
  go_wp2
  go_ret
  exact ⟨rfl, hG⟩

theorem place_nil (w : World) : Calls Tryd.prog 20 #[.nilIface] w fun e w' => e = .returned (.tuple #[.int .i64 0, .int .i64 (-1)]) ∧ w' = w := by
  go_enter Tryd.func20, Tryd.ntmps20
  go_wp2_with fail
  refine (tell_nil _).mono ?_
  rintro e w' ⟨rfl, rfl⟩
  go_wp2_with fail
  refine wp_loop_rounds 1 ?_
  rw [rounds_succ]
  go_wp2
  go_ret2
  exact ⟨rfl, rfl⟩

theorem noAt (n : Int) (w : World) : (Instr.typeAssert (.iface 45 (.int .i64 n)) 40 77 true).run Tryd.prog w = .ok (.tuple #[.pointer none, .bool false]) w := by kernel_rfl
theorem noUnwrap (n : Int) (w : World) : (Instr.typeAssert (.iface 45 (.int .i64 n)) 40 81 true).run Tryd.prog w = .ok (.tuple #[.nilIface, .bool false]) w :=
  run_typeAssert_lacksB Tryd.underlying81 (by kernel_rfl) (by kernel_rfl) _ _ w

theorem place_errno (n : Int) (w : World) (hH : HandleAt w) :
    Calls Tryd.prog 20 #[.iface 45 (.int .i64 n)] w fun e w' => e = .returned (.tuple #[.int .i64 n, .int .i64 (-1)]) ∧ Gr w w' := by
  have h1 := noAt n
  have h2 := noUnwrap n
  go_enter Tryd.func20, Tryd.ntmps20
  go_wp2_with fail
  refine (tell_errno n _ hH).mono ?_
  rintro e w' ⟨rfl, hG⟩
  clear hH
  go_wp2_with fail
  refine wp_loop_rounds 1 ?_
  rw [rounds_succ]
  go_wp2
  go_ret2
  exact ⟨rfl, hG⟩

theorem bare_nil (n : Int) (w : World) :
    Calls Tryd.prog 8 #[.nilIface, .int .i64 n] w fun e w' => e = .returned (.bool (decide (n = 0))) ∧ w' = w := by
  by_cases hn : n = 0
  · subst hn
    go_enter Tryd.func8, Tryd.ntmps8
    go_wp2_with fail
    refine (place_nil _).mono ?_
    rintro e w' ⟨rfl, rfl⟩
    go_wp2
    go_ret
    exact ⟨rfl, rfl⟩
  · have hb : ((0 : Int) == n) = false := beq_eq_false_iff_ne.2 (by omega)
    rw [decide_eq_false hn]
    go_enter Tryd.func8, Tryd.ntmps8
    go_wp2_with fail
    refine (place_nil _).mono ?_
    rintro e w' ⟨rfl, rfl⟩
    go_wp2
    go_ret
    exact ⟨rfl, rfl⟩

theorem bare_errno (n m : Int) (w : World) (hH : HandleAt w) :
    Calls Tryd.prog 8 #[.iface 45 (.int .i64 n), .int .i64 m] w fun e w' => e = .returned (.bool (decide (n = m))) ∧ Gr w w' := by
  by_cases hn : n = m
  · subst hn
    rw [decide_eq_true rfl]
    go_enter Tryd.func8, Tryd.ntmps8
    go_wp2_with fail
    refine (place_errno n _ hH).mono ?_
    rintro e w' ⟨rfl, hG⟩
    go_wp2
    go_ret
    exact ⟨rfl, hG⟩
  · have hb : (n == m) = false := beq_eq_false_iff_ne.2 hn
    rw [decide_eq_false hn]
    go_enter Tryd.func8, Tryd.ntmps8
    go_wp2_with fail
    refine (place_errno n _ hH).mono ?_
    rintro e w' ⟨rfl, hG⟩
    go_wp2
    go_ret
    exact ⟨rfl, hG⟩
end Go.Proofs.YtbmgjpdfmgcigabDoor
namespace Go.Proofs.YtbmgjpdfmgcigabDoor
set_option maxRecDepth 20000
open Go.RowKit
theorem HandleAt.below {w a : World} (h : HandleAt w) (g : Below w.heap.size w a) : HandleAt a := by
  have h' : w.cell? ⟨0, 0, none⟩ = _ := h
  exact (g.cell (p := ⟨0, 0, none⟩) (size_of_cell' h')).trans h'
end Go.Proofs.YtbmgjpdfmgcigabDoor
namespace Go.Proofs.YtbmgjpdfmgcigabDoor
set_option maxRecDepth 20000
open Go.ChangeShapes Go.WideShapes Go.ChangeAt Go.RowKit

theorem own : ownKnob Tryd.prog.godebug = none := by kernel_rfl
theorem gHandle : Tryd.prog.globalNamed "errors.errorType" = some 0 := by kernel_rfl
theorem rtHandle : (Tryd.prog.cutTypes.find? (·.1 == "internal/reflectlite.rtype")).map (·.2) = some 128 := by kernel_rfl
theorem oneRow : ((List.range 170).filter fun t => Tryd.prog.rowNamed t [101, 114, 114, 111, 114]) = [40] := by kernel_rfl
theorem typesSize : Tryd.prog.types.size = 170 := by kernel_rfl

abbrev laidHandle {H : Type} : List (String × DataW H) := [("errors.errorType", Rows.laid_errors_errorType)]

theorem door_handle (os : Os) (args : Array Value) : laidMetH Tryd.prog laidHandle ((World.doorLaid Tryd.prog 400 os).forCall (fun _ _ => 0) ⟨#[], args, []⟩).memory :=
  laidMetH_of_parts (laidMet_nil _ _) (by kernel_rfl)

theorem handle_of_laid {W : World} (h : laidMetH Tryd.prog laidHandle W) : HandleAt W := by
  have h' : laidMet Tryd.prog [] W ∧ handlesMet Tryd.prog laidHandle W := h
  obtain ⟨name, u, ty, e1, e2, e3, e4, e5⟩ := h'.2 _ (List.mem_singleton.2 rfl)
  have en : name = [101, 114, 114, 111, 114] := (Option.some.inj e1).symm
  subst en
  obtain rfl := Option.some.inj (rtHandle.symm.trans e2)
  have hm : ty ∈ (List.range 170).filter fun t => Tryd.prog.rowNamed t [101, 114, 114, 111, 114] := List.mem_filter.2 ⟨List.mem_range.2 (by rw [← typesSize]; exact e3), e4⟩
  rw [oneRow] at hm
  obtain rfl := List.mem_singleton.1 hm
  have hh : typeHandle Tryd.prog 40 = .pointer (some ⟨1, 40, none⟩) := by kernel_rfl
  rw [hh] at e5
  have := World.var?_cell gHandle e5 0
  rw [HandleAt, this]
  rfl
end Go.Proofs.YtbmgjpdfmgcigabDoor
namespace Go.Proofs.YtbmgjpdfmgcigabDoor
set_option maxRecDepth 20000
open Go.ChangeShapes Go.WideShapes Go.ChangeAt Go.RowKit

theorem okWide_arr {P : Program} {w : World} {r : Reach} {base : Nat} {t e : TypeId} {n : Nat} {v : Value} (ht : P.underlying t = some (.array n e)) (h : Value.okWide P w r base t v) : ∃ cs, v = .agg cs ∧ cs.size = P.cellsOf t := by
  simp only [Value.okWide, ht] at h
  obtain ⟨cs, h1, h2, _⟩ := h
  exact ⟨cs, h1, h2⟩
theorem wf_u64 {x : Int} (h : (Lit.int .u64 x).wf = true) : 0 ≤ x ∧ x < 18446744073709551616 := by
  simp [Lit.wf, IntKind.min, IntKind.max] at h
  exact ⟨of_decide_eq_true h.1, by have := of_decide_eq_true h.2; simp [IntKind.signed, IntKind.bits] at this; omega⟩

theorem warr_of_trod {H : Type} {enc : TypeId × Value → H} {W : World} {r : Reach} {b0 n : Nat} {T : TypeId} {v : Value} {d : DataW H} {p : List MemPlace} (hu : Tryd.prog.underlying T = some (.array n 22)) (cn : Tryd.prog.cellsOf T = n) (hval : Value.okWide Tryd.prog W r b0 T v)
    (h : DataW.Trod enc Tryd.prog W 0 (fun _ => true) true T v d p) : ∃ c : Nat → Nat, v = .agg ((List.range n).map fun j => Value.int .u64 (c j : Nat)).toArray ∧ ∀ j, j < n → c j < 18446744073709551616 := by
  have ci : Tryd.prog.cellsOf 22 = 1 := by kernel_rfl
  obtain ⟨cs, rfl, hsz⟩ := okWide_arr hu hval
  rw [cn] at hsz
  obtain ⟨fuel, hf⟩ := h
  obtain ⟨xs, m, _, _, _, hxl, hx⟩ := DataW.trod_array hu hf
  rw [ci] at hx
  have key : ∀ i, i < n → ∃ k : Nat, cs[i]? = some (.int .u64 (k : Nat)) ∧ k < 18446744073709551616 := by
    intro i hi
    have h2 := hx i hi
    rw [List.getElem?_eq_getElem (by omega)] at h2
    obtain ⟨n0, e0, _, hw⟩ := DataW.trod_int Tryd.underlying22 h2
    obtain ⟨b1, b2⟩ := wf_u64 hw
    refine ⟨n0.toNat, ?_, by omega⟩
    have g : (Value.agg cs).cells.toList = cs.toList := rfl
    rw [g] at e0
    have := congrArg (·[0]?) e0
    simp [List.getElem?_drop] at this
    rw [this]; congr 2; omega
  obtain ⟨c, hc⟩ : ∃ c : Nat → Nat, ∀ i, i < n → cs[i]? = some (.int .u64 (c i : Nat)) ∧ c i < 18446744073709551616 := by
    refine ⟨fun i => if h : i < n then Classical.choose (key i h) else 0, fun i hi => ?_⟩
    simp only [hi, dif_pos]
    exact Classical.choose_spec (key i hi)
  refine ⟨c, ?_, fun j hj => (hc j hj).2⟩
  congr 1
  apply Array.ext'
  apply List.ext_getElem?
  intro j
  by_cases hj : j < n
  · have := (hc j hj).1
    simp [hj]
    simpa using this
  · rw [List.getElem?_eq_none (by simpa using (by omega : cs.size ≤ j)), List.getElem?_eq_none (by simpa using hj)]
theorem cells_of_trod {H : Type} {enc : TypeId × Value → H} {W : World} {r : Reach} {b0 : Nat} {v : Value} {d : DataW H} {p : List MemPlace} (hval : Value.okWide Tryd.prog W r b0 24 v)
    (h : DataW.Trod enc Tryd.prog W 0 (fun _ => true) true 24 v d p) : ∃ c : Nat → Nat, v = .agg (Tab.wl c).toArray := by
  obtain ⟨c, h1, _⟩ := warr_of_trod (n := 17) (by kernel_rfl) (by kernel_rfl) hval h
  exact ⟨c, h1⟩
theorem laid_outc : laidOutB Tryd.prog = true := by kernel_rfl
theorem cells_stay {H : Type} {enc : TypeId × Value → H} {W W' : World} {sp : Nat → Bool} {v : Value} {d : DataW H} {p : List MemPlace}
    (h : DataW.Trod enc Tryd.prog W 0 (fun _ => true) true 24 v d p) (hb : Below W.heap.size W W') (hlt : ∀ x ∈ p, x.block < W.heap.size) (hs : ∀ x ∈ p, sp x.block = true) :
    DataW.Trod enc Tryd.prog W' 0 sp true 24 v d p :=
  WideElems.Trod_stays laid_outc (by kernel_rfl) (of_decide_eq_true (by kernel_rfl)) h (fun x hx => hb.same (hlt x hx)) hs
end Go.Proofs.YtbmgjpdfmgcigabDoor
namespace Go.Proofs.YtbmgjpdfmgcigabDoor.Tab
set_option maxRecDepth 20000
open Go.RowKit
set_option linter.unusedVariables false

theorem cells_desc : Tryd.prog.underlying 24 = some (.array 17 22) := by kernel_rfl
theorem wpart0 (c : Nat → Nat) (w : World) : (part 22 (wl c).toArray 0).run Tryd.prog w = .ok (.int .u64 (c 0 : Nat)) w := by kernel_rfl
theorem wpart1 (c : Nat → Nat) (w : World) : (part 22 (wl c).toArray 1).run Tryd.prog w = .ok (.int .u64 (c 1 : Nat)) w := by kernel_rfl
theorem wpart2 (c : Nat → Nat) (w : World) : (part 22 (wl c).toArray 2).run Tryd.prog w = .ok (.int .u64 (c 2 : Nat)) w := by kernel_rfl
theorem wpart3 (c : Nat → Nat) (w : World) : (part 22 (wl c).toArray 3).run Tryd.prog w = .ok (.int .u64 (c 3 : Nat)) w := by kernel_rfl
theorem wpart4 (c : Nat → Nat) (w : World) : (part 22 (wl c).toArray 4).run Tryd.prog w = .ok (.int .u64 (c 4 : Nat)) w := by kernel_rfl
theorem wpart5 (c : Nat → Nat) (w : World) : (part 22 (wl c).toArray 5).run Tryd.prog w = .ok (.int .u64 (c 5 : Nat)) w := by kernel_rfl
theorem wpart6 (c : Nat → Nat) (w : World) : (part 22 (wl c).toArray 6).run Tryd.prog w = .ok (.int .u64 (c 6 : Nat)) w := by kernel_rfl
theorem wpart7 (c : Nat → Nat) (w : World) : (part 22 (wl c).toArray 7).run Tryd.prog w = .ok (.int .u64 (c 7 : Nat)) w := by kernel_rfl
theorem wpart8 (c : Nat → Nat) (w : World) : (part 22 (wl c).toArray 8).run Tryd.prog w = .ok (.int .u64 (c 8 : Nat)) w := by kernel_rfl
theorem wpart9 (c : Nat → Nat) (w : World) : (part 22 (wl c).toArray 9).run Tryd.prog w = .ok (.int .u64 (c 9 : Nat)) w := by kernel_rfl
theorem wpart10 (c : Nat → Nat) (w : World) : (part 22 (wl c).toArray 10).run Tryd.prog w = .ok (.int .u64 (c 10 : Nat)) w := by kernel_rfl
theorem wpart11 (c : Nat → Nat) (w : World) : (part 22 (wl c).toArray 11).run Tryd.prog w = .ok (.int .u64 (c 11 : Nat)) w := by kernel_rfl
theorem wpart12 (c : Nat → Nat) (w : World) : (part 22 (wl c).toArray 12).run Tryd.prog w = .ok (.int .u64 (c 12 : Nat)) w := by kernel_rfl
theorem wpart13 (c : Nat → Nat) (w : World) : (part 22 (wl c).toArray 13).run Tryd.prog w = .ok (.int .u64 (c 13 : Nat)) w := by kernel_rfl
theorem wpart14 (c : Nat → Nat) (w : World) : (part 22 (wl c).toArray 14).run Tryd.prog w = .ok (.int .u64 (c 14 : Nat)) w := by kernel_rfl
theorem wpart15 (c : Nat → Nat) (w : World) : (part 22 (wl c).toArray 15).run Tryd.prog w = .ok (.int .u64 (c 15 : Nat)) w := by kernel_rfl
theorem wpart16 (c : Nat → Nat) (w : World) : (part 22 (wl c).toArray 16).run Tryd.prog w = .ok (.int .u64 (c 16 : Nat)) w := by kernel_rfl
theorem word_equal (x : Int) (w : World) : (Op.equalIn 9999 22 (.int .u64 x) (.int .u64 x)).run Tryd.prog w = .ok true w := by
  go_simp
theorem cells_equal (c : Nat → Nat) (w : World) : (Op.equalIn 10000 24 (.agg (wl c).toArray) (.agg (wl c).toArray)).run Tryd.prog w = .ok true w := by
  have hc : Tryd.prog.cellsOf 22 = 1 := by kernel_rfl
  cases hi : Tryd.prog.info? 22 with
  | none => simp [Program.cellsOf, hi] at hc
  | some i =>
    have h := run_equalIn_array (w := w) 9999 (wl c).toArray (wl c).toArray cells_desc hi
    rw [h, hc]
    have hr : List.range 17 = [0, 1, 2, 3, 4, 5, 6, 7, 8, 9, 10, 11, 12, 13, 14, 15, 16] := by decide
    rw [hr]
    simp [Op.eqItems, wpart0 c w, wpart1 c w, wpart2 c w, wpart3 c w, wpart4 c w, wpart5 c w, wpart6 c w, wpart7 c w, wpart8 c w, wpart9 c w, wpart10 c w, wpart11 c w, wpart12 c w, wpart13 c w, wpart14 c w, wpart15 c w, wpart16 c w, word_equal]
theorem cells_zero (w : World) : (Op.equalIn 10000 24 (.agg (wl wz).toArray) (.agg #[.int .u64 0, .int .u64 0, .int .u64 0, .int .u64 0, .int .u64 0, .int .u64 0, .int .u64 0, .int .u64 0, .int .u64 0, .int .u64 0, .int .u64 0, .int .u64 0, .int .u64 0, .int .u64 0, .int .u64 0, .int .u64 0, .int .u64 0])).run Tryd.prog w = .ok true w := cells_equal wz w
theorem afield0 (c y : Int) (w : World) : (Instr.field 38 (.agg #[.int .i64 c, .int .i64 y]) 0).run Tryd.prog w = .ok (.int .i64 c) w := by kernel_rfl
theorem afield1 (c y : Int) (w : World) : (Instr.field 38 (.agg #[.int .i64 c, .int .i64 y]) 1).run Tryd.prog w = .ok (.int .i64 y) w := by kernel_rfl
end Go.Proofs.YtbmgjpdfmgcigabDoor.Tab
namespace Go.Proofs.YtbmgjpdfmgcigabDoor.Tab
set_option maxRecDepth 20000
open Go.RowKit
set_option linter.unusedVariables false

theorem rfR_yes {o k v : Int} (h : Rt o k v) (w : World) :
    Calls Tryd.prog 7 #[.agg #[.int .i64 o, .int .i64 k, .int .i64 v]] w fun e w' => e = .returned (.bool true) ∧ Below w.heap.size w w' := by
  obtain ⟨h1, h2, h3, h4, h5, h6⟩ := h
  have B : Hid _ := new_below w (.cells #[.int .i64 o, .int .i64 k, .int .i64 v] 26)
  go_enter Tryd.func7, Tryd.ntmps7
  go_wp2_with (go_at_call 13; refine (rwithin_yes _ _ _ _ (by omega) (by omega)).mono ?_; rintro e w' ⟨rfl, rfl⟩)
  go_ret
  exact ⟨rfl, B.out⟩
theorem rfR_no {o k v : Int} (h : ¬ Rt o k v) (w : World) :
    Calls Tryd.prog 7 #[.agg #[.int .i64 o, .int .i64 k, .int .i64 v]] w fun e w' => e = .returned (.bool false) ∧ Below w.heap.size w w' := by
  have B : Hid _ := new_below w (.cells #[.int .i64 o, .int .i64 k, .int .i64 v] 26)
  by_cases h1 : 1 ≤ o ∧ o ≤ 6
  · by_cases h2 : 0 ≤ k ∧ k ≤ 1000
    · have h3 : v < 0 ∨ 4294967295 < v := by
        by_cases e : 0 ≤ v ∧ v ≤ 4294967295
        · exact absurd ⟨h1.1, h1.2, h2.1, h2.2, e.1, e.2⟩ h
        · omega
      clear h
      go_enter Tryd.func7, Tryd.ntmps7
      go_wp2_with fail
      refine (rwithin_yes _ _ _ _ h1.1 h1.2).mono ?_
      rintro e w' ⟨rfl, hw⟩
      rw [hw]; clear hw w'
      go_wp2_with fail
      refine (rwithin_yes _ _ _ _ h2.1 h2.2).mono ?_
      rintro e w' ⟨rfl, hw⟩
      rw [hw]; clear hw w'
      go_wp2_with fail
      refine (rwithin_no _ _ _ _ h3).mono ?_
      rintro e w' ⟨rfl, hw⟩
      rw [hw]; clear hw w'
      go_wp2
      go_ret
      exact ⟨rfl, B.out⟩
    · have h3 : k < 0 ∨ 1000 < k := by omega
      clear h h2
      go_enter Tryd.func7, Tryd.ntmps7
      go_wp2_with fail
      refine (rwithin_yes _ _ _ _ h1.1 h1.2).mono ?_
      rintro e w' ⟨rfl, hw⟩
      rw [hw]; clear hw w'
      go_wp2_with fail
      refine (rwithin_no _ _ _ _ h3).mono ?_
      rintro e w' ⟨rfl, hw⟩
      rw [hw]; clear hw w'
      go_wp2
      go_ret
      exact ⟨rfl, B.out⟩
  · have h3 : o < 1 ∨ 6 < o := by omega
    clear h h1
    go_enter Tryd.func7, Tryd.ntmps7
    go_wp2_with fail
    refine (rwithin_no _ _ _ _ h3).mono ?_
    rintro e w' ⟨rfl, hw⟩
    rw [hw]; clear hw w'
    go_wp2
    go_ret
    exact ⟨rfl, B.out⟩
end Go.Proofs.YtbmgjpdfmgcigabDoor.Tab
namespace Go.Proofs.YtbmgjpdfmgcigabDoor
set_option maxRecDepth 20000
open Go.ChangeShapes Go.WideShapes Go.ChangeAt Go.RowKit

set_option maxRecDepth 20000 in
theorem op_of_trod {H : Type} {enc : TypeId × Value → H} {W : World} {r : Reach} {b0 : Nat} {v : Value} {d : DataW H} {p : List MemPlace} (hval : Value.okWide Tryd.prog W r b0 26 v)
    (h : DataW.Trod enc Tryd.prog W 0 (fun _ => true) true 26 v d p) :
    ∃ a b c : Int, v = .agg #[.int .i64 a, .int .i64 b, .int .i64 c] ∧ (Lit.int .i64 a).wf = true ∧ (Lit.int .i64 b).wf = true ∧ (Lit.int .i64 c).wf = true := by
  obtain ⟨v0, v1, v2, y0, y1, y2, n, rfl, _, _, h0, h1, h2⟩ := Go.Joins.open_agg3 Tryd.underlying26 (by kernel_rfl) (by kernel_rfl) hval h
  obtain ⟨a, e0, _, w0⟩ := DataW.trod_int Tryd.underlying3 h0
  obtain ⟨b, e1, _, w1⟩ := DataW.trod_int Tryd.underlying3 h1
  obtain ⟨c, e2, _, w2⟩ := DataW.trod_int Tryd.underlying3 h2
  simp only [List.cons.injEq, and_true] at e0 e1 e2
  subst e0 e1 e2
  exact ⟨a, b, c, rfl, w0, w1, w2⟩

theorem laid_out : laidOutB Tryd.prog = true := by kernel_rfl
theorem op_stay {H : Type} {enc : TypeId × Value → H} {W W' : World} {sp : Nat → Bool} {v : Value} {d : DataW H} {p : List MemPlace}
    (h : DataW.Trod enc Tryd.prog W 0 (fun _ => true) true 26 v d p) (hb : Below W.heap.size W W') (hlt : ∀ x ∈ p, x.block < W.heap.size) (hs : ∀ x ∈ p, sp x.block = true) :
    DataW.Trod enc Tryd.prog W' 0 sp true 26 v d p :=
  WideElems.Trod_stays laid_out (by kernel_rfl) (of_decide_eq_true (by kernel_rfl)) h (fun x hx => hb.same (hlt x hx)) hs
end Go.Proofs.YtbmgjpdfmgcigabDoor
