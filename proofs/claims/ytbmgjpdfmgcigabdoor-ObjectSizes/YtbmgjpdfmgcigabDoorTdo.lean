/- The reference's Thing.Do and Thing.Cells, by their contracts: of whatever object. -/
import Derived.Test.YtbmgjpdfmgcigabDoorTdA
import Derived.Test.YtbmgjpdfmgcigabDoorTdH
import Derived.Test.YtbmgjpdfmgcigabDoorTdB
import Derived.Test.YtbmgjpdfmgcigabDoorTdC
import Derived.Test.YtbmgjpdfmgcigabDoorTob
import Derived.Test.YtbmgjpdfmgcigabDoorRp
namespace Go.Proofs.YtbmgjpdfmgcigabDoor.Tab
set_option maxRecDepth 20000
open Go.RowKit
set_option linter.unusedVariables false

theorem Th.later {B : Nat} {w w' : World} {kind : Int} {c : Nat → Nat} {v : Value} {t : Tb} {n : Int} (h : Th B w kind c v t n) (hb : Below w.heap.size w w') : Th B w' kind c v t n :=
  ⟨fun hk => ⟨(h.list hk).1.later hb, (h.list hk).2⟩, h.table, h.tally⟩
theorem Th.any {B : Nat} {w : World} {kind : Int} {c : Nat → Nat} {v : Value} {t : Tb} {n : Int} (h : Th B w kind c v t n) : Th 0 w kind c v t n :=
  ⟨fun hk => ⟨(h.list hk).1.mono (Nat.zero_le _), (h.list hk).2⟩, h.table, h.tally⟩
theorem Th.one {B : Nat} {w : World} {kind : Int} {c : Nat → Nat} {v : Value} {t : Tb} {n : Int} (h : Th B w kind c v t n) (hk : kind ≤ 6) : v.oneCell' = true := by
  by_cases h4 : kind ≤ 4
  · obtain ⟨a, k, rfl⟩ := (h.list h4).1.form; rfl
  · by_cases h5 : kind = 5
    · rw [(h.table h5).1]; rfl
    · rw [(h.tally (by omega)).1]; rfl

/-- What the reference's Do makes of a thing that words are. -/
def DoesTh (w : World) (kind : Int) (r : (Nat → Nat) × Int × Int) (e : Ending) (w' : World) : Prop :=
  ∃ v t n, e = .returned (.tuple #[.agg (tg kind v t n).toArray, .agg #[.int .i64 r.2.1, .int .i64 r.2.2]]) ∧ Th 0 w' kind r.1 v t n ∧ Below w.heap.size w w'

theorem TDo_list {kind o k x : Int} {c : Nat → Nat} {v : Value} {t : Tb} {n : Int} {w : World} (h1 : 1 ≤ kind) (h4 : kind ≤ 4) (hW : WList c) (hp : kind = 4 → Hp (lst c)) (hR : Rt o k x) (h : Th 0 w kind c v t n) :
    Calls Tryd.prog 9 #[.agg (tg kind v t n).toArray, .agg #[.int .i64 o, .int .i64 k, .int .i64 x]] w (DoesTh w kind (odo kind c o k x)) := by
  have hL := (h.list h4).1
  have h6 : (lst c).length ≤ 6 := by rw [lst_length]; exact hW.len
  have hF := (ldo_facts (kind := kind) (k := k) h1 h4 h6 (lst_val hW) hp hR.w1 hR.w6 hR.v0 hR.v1).1
  have e : odo kind c o k x = (lw (ldo kind (lst c) o x).1, (ldo kind (lst c) o x).2) := by unfold odo; rw [if_neg (by omega), if_neg (by omega)]
  rw [e]
  have fin : ∀ {e w'} {v' : Value}, e = .returned (.tuple #[.agg (tg kind v' t n).toArray, .agg #[.int .i64 (ldo kind (lst c) o x).2.1, .int .i64 (ldo kind (lst c) o x).2.2]]) → IsL 0 w' v' (ldo kind (lst c) o x).1 → Below w.heap.size w w' → DoesTh w kind (lw (ldo kind (lst c) o x).1, (ldo kind (lst c) o x).2) e w' := by
    intro e w' v' he hi hb
    refine ⟨v', t, n, he, ⟨fun _ => ⟨?_, (h.list h4).2⟩, fun h => by omega, fun h => by omega⟩, hb⟩
    show IsL 0 w' v' (lst (lw _))
    rw [lst_lw hF.val]; exact hi
  have : kind = 1 ∨ kind = 2 ∨ kind = 3 ∨ kind = 4 := by omega
  rcases this with rfl | rfl | rfl | rfl
  · exact (TDo_1 (k := k) t n hL h6 (show qdo (lst c) o x = (_, _, _) from rfl)).mono fun _ _ ⟨v', a, b, d⟩ => fin a b d
  · exact (TDo_2 (k := k) t n hL h6 (show sdo (lst c) o x = (_, _, _) from rfl)).mono fun _ _ ⟨v', a, b, d⟩ => fin a b d
  · exact (TDo_3 (k := k) t n hL h6 (show ddo (lst c) o x = (_, _, _) from rfl)).mono fun _ _ ⟨v', a, b, d⟩ => fin a b d
  · exact (TDo_4 (k := k) t n hL h6 (show hdo (lst c) o x = (_, _, _) from rfl)).mono fun _ _ ⟨v', a, b, d⟩ => fin a b d

theorem TDo_is {kind o k x : Int} {c : Nat → Nat} (hO : isTh kind c) (hR : Rt o k x) {v : Value} {t : Tb} {n : Int} {w : World} (h : Th 0 w kind c v t n) :
    Calls Tryd.prog 9 #[.agg (tg kind v t n).toArray, .agg #[.int .i64 o, .int .i64 k, .int .i64 x]] w (DoesTh w kind (odo kind c o k x)) := by
  have hk := hO.kind
  by_cases h4 : kind ≤ 4
  · refine TDo_list hk.1 h4 ?_ ?_ hR h
    · rcases hO with ⟨_, h⟩ | ⟨_, h, _⟩ | ⟨h, _⟩ | ⟨h, _⟩
      · exact h
      · exact h
      · omega
      · omega
    · intro e
      rcases hO with ⟨h, _⟩ | ⟨_, _, h⟩ | ⟨h, _⟩ | ⟨h, _⟩
      · omega
      · exact h
      · omega
      · omega
  · by_cases h5 : kind = 5
    · subst h5
      obtain ⟨hv, ht, hn⟩ := h.table rfl
      have hr : RT (tbl c) := by
        rcases hO with ⟨h, _⟩ | ⟨h, _⟩ | ⟨_, h⟩ | ⟨h, _⟩
        · omega
        · omega
        · exact h.2.2
        · omega
      have hF := tdo_facts hr (o := o) (k := k) (x := x) hR.w1 hR.w6 hR.k0 hR.k1 hR.v0 hR.v1
      rw [tg_same ht]
      refine (TDo_5 (u := (tdo (tbl c) o k x).1) (cc := (tdo (tbl c) o k x).2.1) (y := (tdo (tbl c) o k x).2.2) (by rw [hv]; rfl) n hr rfl).mono fun e w' ⟨a, b⟩ => ⟨v, _, n, a, ⟨fun h => by omega, fun _ => ⟨hv, ?_, hn⟩, fun h => by omega⟩, b⟩
      show (tdo (tbl c) o k x).1.all = (tbl (tw (tdo (tbl c) o k x).1)).all
      exact tw_all (fun i hi => (hF.rt.keys i hi).1) (fun i hi => (hF.rt.vals i hi).1)
    · obtain rfl : kind = 6 := by omega
      obtain ⟨hv, ht, hn⟩ := h.tally rfl
      have hw : WN c := by
        rcases hO with ⟨h, _⟩ | ⟨h, _⟩ | ⟨h, _⟩ | ⟨_, h⟩
        · omega
        · omega
        · omega
        · exact h
      have hc := hw.1
      have hF := ado_facts (n := ((c 0 : Nat) : Int)) (o := o) (x := x) (by omega) (by omega) hR.w1 hR.w6 hR.v0 hR.v1
      subst hn
      refine (TDo_6 (m := (ado (c 0 : Nat) o x).1) (cc := (ado (c 0 : Nat) o x).2.1) (y := (ado (c 0 : Nat) o x).2.2) (k := k) (by rw [hv]; rfl) t (by omega) (by omega) hR.v0 hR.v1 rfl).mono fun e w' ⟨a, b⟩ => ⟨v, t, _, a, ⟨fun h => by omega, fun h => by omega, fun _ => ⟨hv, ht, ?_⟩⟩, b⟩
      show _ = ((tyw (ado (c 0 : Nat) o x).1 0 : Nat) : Int)
      have := hF.rt
      unfold tyw
      rw [if_pos rfl]; omega

/-- The words of a thing that words are. -/
theorem TCells_is {kind : Int} {c : Nat → Nat} (hO : isTh kind c) {v : Value} {t : Tb} {n : Int} {w : World} (h : Th 0 w kind c v t n) :
    Calls Tryd.prog 11 #[.agg (tg kind v t n).toArray] w fun e w' => Wd w.heap.size e w' c ∧ Below w.heap.size w w' := by
  have cg : ∀ {d : Nat → Nat}, (∀ j, j < 17 → d j = c j) → ∀ e w', Wd w.heap.size e w' d ∧ Below w.heap.size w w' → Wd w.heap.size e w' c ∧ Below w.heap.size w w' := fun hd e w' ⟨⟨b, h1, h2, h3⟩, h4⟩ => ⟨⟨b, h1, h2, wl_congr hd ▸ h3⟩, h4⟩
  rcases hO with ⟨hk, hw⟩ | ⟨hk, hw, _⟩ | ⟨hk, hw⟩ | ⟨hk, hw⟩
  · exact (Cells_list (by omega) (by omega) t n (h.list (by omega)).1 (by rw [lst_length]; exact hw.len) (lst_val hw)).mono (cg (lw_lst hw))
  · exact (Cells_list (by omega) (by omega) t n (h.list (by omega)).1 (by rw [lst_length]; exact hw.len) (lst_val hw)).mono (cg (lw_lst hw))
  · subst hk
    rw [tg_same (h.table rfl).2.1]
    refine (Cells_5 v (tbl c) n (fun i hi => ?_) (fun i hi => ?_) w).mono (cg (tw_iff.2 hw.2.1))
    · have := hw.1 (2 * i) (by omega); simp only [tbl]; omega
    · have := hw.1 (2 * i + 1) (by omega); simp only [tbl]; omega
  · subst hk
    rw [(h.tally rfl).2.2]
    exact (Cells_6 v t (c 0) hw.1 w).mono (cg (tyw_iff.2 hw.2))
end Go.Proofs.YtbmgjpdfmgcigabDoor.Tab
