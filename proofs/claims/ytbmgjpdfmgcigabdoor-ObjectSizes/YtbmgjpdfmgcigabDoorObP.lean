/- Package object: Do, by its contract. -/
import Derived.Test.YtbmgjpdfmgcigabDoorObM
import Derived.Test.YtbmgjpdfmgcigabDoorObH
import Derived.Test.YtbmgjpdfmgcigabDoorObI
import Derived.Test.YtbmgjpdfmgcigabDoorObJ
import Derived.Test.YtbmgjpdfmgcigabDoorObK
import Derived.Test.YtbmgjpdfmgcigabDoorOd
namespace Go.Proofs.YtbmgjpdfmgcigabDoor.Tab
set_option maxRecDepth 20000
open Go.RowKit
set_option linter.unusedVariables false

theorem he_list (args : Array Value) (w : World) : (callFunc 50 args).run Tryd.prog w = .ok (.enter 50 args) w := by kernel_rfl
theorem he_table (args : Array Value) (w : World) : (callFunc 40 args).run Tryd.prog w = .ok (.enter 40 args) w := by kernel_rfl
theorem he_tally (args : Array Value) (w : World) : (callFunc 41 args).run Tryd.prog w = .ok (.enter 41 args) w := by kernel_rfl
theorem wl_tyw (r : Nat) : wl (upw wz 0 r) = wl (tyw (r : Nat)) := wl_congr fun j hj => by
  unfold upw tyw wz
  by_cases e : j = 0
  · subst e; simp
  · rw [if_neg e, if_neg e]

def ptr (b : Nat) : Array Value := #[.pointer (some ⟨b, 0, none⟩)]
theorem obDo_is {kind o k x : Int} {c : Nat → Nat} (hO : isOb kind c) (hR : Rt o k x) (w : World) :
    Calls Tryd.prog 6 #[.int .i64 kind, .agg (wl c).toArray, .agg #[.int .i64 o, .int .i64 k, .int .i64 x]] w (DidD w (odo kind c o k x).1 (odo kind c o k x).2.1 (odo kind c o k x).2.2) := by
  obtain ⟨b1, b6⟩ := isOb_kind hO
  by_cases e5 : kind = 5
  · subst e5
    obtain ⟨h1, h2, h3⟩ : WTab c := by
      rcases hO with ⟨hk, _⟩ | ⟨hk, _⟩ | ⟨_, h⟩ | ⟨hk, _⟩ <;> first | exact h | omega
    have f := tdo_facts h3 hR.w1 hR.w6 hR.k0 hR.k1 hR.v0 hR.v1
    have e : odo 5 c o k x = (tw (tdo (tbl c) o k x).1, (tdo (tbl c) o k x).2) := by rw [odo, if_pos rfl]
    rw [e]
    refine obDo_any (cp := fun _ _ _ _ => #[]) he_table hR hO (fun u m b1 b2 b3 b4 D => D.mp.look 5 (by decide) (by decide) (deeds_5 b1 b2 b3 b4)) (fun u m b1 b2 b3 b4 D => ?_) w
    exact withTable_is (u := (tdo (tbl c) o k x).1) (cc := (tdo (tbl c) o k x).2.1) (y := (tdo (tbl c) o k x).2.2) (fun j hj => by have := upC_all h1 (j := j) (by omega) (by omega); omega) rfl (fun i hi => by have := f.rt.keys i hi; omega) (fun i hi => f.rt.vals i hi) u
  by_cases e6 : kind = 6
  · subst e6
    have h1 : isTb c = true := by
      rcases hO with ⟨hk, _⟩ | ⟨hk, _⟩ | ⟨hk, _⟩ | ⟨_, h⟩ <;> first | exact h | omega
    have hc : 0 ≤ ((c 0 : Nat) : Int) ∧ ((c 0 : Nat) : Int) ≤ 4294967295 := by
      unfold isTb at h1
      simp only [Bool.and_eq_true] at h1
      have := upC_all h1.1 (j := 0) (by omega) (by omega)
      omega
    have f := ado_facts hc.1 hc.2 hR.w1 hR.w6 hR.v0 hR.v1
    have e : odo 6 c o k x = (tyw (ado (c 0) o x).1, (ado (c 0) o x).2) := by rw [odo, if_neg (by decide), if_pos rfl]
    rw [e]
    refine obDo_any (cp := fun _ _ _ _ => #[]) he_tally hR hO (fun u m b1 b2 b3 b4 D => D.mp.look 6 (by decide) (by decide) (deeds_6 b1 b2 b3 b4)) (fun u m b1 b2 b3 b4 D => ?_) w
    have hr : (((ado (c 0) o x).1.toNat : Nat) : Int) = (ado (c 0) o x).1 := by have := f.rt.1; omega
    have := withTally_is (c := c) (m := c 0) (r := (ado (c 0) o x).1.toNat) (o := o) (k := k) (x := x) (cc := (ado (c 0) o x).2.1) (y := (ado (c 0) o x).2.2) rfl (by omega) hR.v0 hR.v1 (by have := f.rt.2; omega) (by rw [hr]) u
    rw [wl_tyw, hr] at this
    exact this
  have h4 : kind ≤ 4 := by omega
  obtain ⟨hb, hp⟩ := isOb_list h4 hO
  have hw := isLb_w hb
  have h6 : (lst c).length ≤ 6 := by rw [lst_length]; exact hw.len
  obtain ⟨f, g⟩ := ldo_facts (k := k) b1 h4 h6 (lst_val hw) hp hR.w1 hR.w6 hR.v0 hR.v1
  have e : odo kind c o k x = (lw (ldo kind (lst c) o x).1, (ldo kind (lst c) o x).2) := by rw [odo, if_neg e5, if_neg e6]
  rw [e]
  have : kind = 1 ∨ kind = 2 ∨ kind = 3 ∨ kind = 4 := by omega
  rcases this with rfl | rfl | rfl | rfl
  · exact obDo_any (cp := fun b1 _ _ _ => ptr b1) he_list hR hO (fun u m b1 b2 b3 b4 D => D.mp.look 1 (by decide) (by decide) (deeds_1 b1 b2 b3 b4)) (fun u m b1 b2 b3 b4 D => wlist_q hw (fun B W v h => qDo_eq k h (by omega) rfl) f.len f.val u D.q) w
  · exact obDo_any (cp := fun _ b2 _ _ => ptr b2) he_list hR hO (fun u m b1 b2 b3 b4 D => D.mp.look 2 (by decide) (by decide) (deeds_2 b1 b2 b3 b4)) (fun u m b1 b2 b3 b4 D => wlist_s hw (fun B W v h => sDo_eq k h (by omega) rfl) f.len f.val u D.s) w
  · exact obDo_any (cp := fun _ _ b3 _ => ptr b3) he_list hR hO (fun u m b1 b2 b3 b4 D => D.mp.look 3 (by decide) (by decide) (deeds_3 b1 b2 b3 b4)) (fun u m b1 b2 b3 b4 D => wlist_d hw (fun B W v h => dDo_eq k h (by omega) rfl) f.len f.val u D.d) w
  · exact obDo_any (cp := fun _ _ _ b4 => ptr b4) he_list hR hO (fun u m b1 b2 b3 b4 D => D.mp.look 4 (by decide) (by decide) (deeds_4 b1 b2 b3 b4)) (fun u m b1 b2 b3 b4 D => wlist_h hw (fun B W v h => hDo_eq k h (by omega) rfl) f.len f.val u D.h) w
theorem obDo_no {kind o k x : Int} {c : Nat → Nat} (h : ¬ (Rt o k x ∧ isOb kind c)) (w : World) :
    Calls Tryd.prog 6 #[.int .i64 kind, .agg (wl c).toArray, .agg #[.int .i64 o, .int .i64 k, .int .i64 x]] w (Refd w) := by
  by_cases hR : Rt o k x
  · exact obDo_isnt hR (fun hO => h ⟨hR, hO⟩) w
  · exact obDo_wrong hR w
end Go.Proofs.YtbmgjpdfmgcigabDoor.Tab
