/- The reference's ThingOf, by its contract. -/
import Derived.Test.YtbmgjpdfmgcigabDoorThA
import Derived.Test.YtbmgjpdfmgcigabDoorThB
import Derived.Test.YtbmgjpdfmgcigabDoorThC
import Derived.Test.YtbmgjpdfmgcigabDoorThE
import Derived.Test.YtbmgjpdfmgcigabDoorThG
import Derived.Test.YtbmgjpdfmgcigabDoorThH
import Derived.Test.YtbmgjpdfmgcigabDoorThI
namespace Go.Proofs.YtbmgjpdfmgcigabDoor.Tab
set_option maxRecDepth 20000
open Go.RowKit
set_option linter.unusedVariables false

/-- What a thing that words are is, as it lies. -/
structure Th (B : Nat) (w : World) (kind : Int) (c : Nat → Nat) (v : Value) (t : Tb) (x : Int) : Prop where
  list : kind ≤ 4 → IsL B w v (lst c) ∧ t = Tb.zero ∧ x = 0
  table : kind = 5 → v = .slice none 0 0 ∧ t.all = (tbl c).all ∧ x = 0
  tally : kind = 6 → v = .slice none 0 0 ∧ t = Tb.zero ∧ x = (c 0 : Nat)

theorem lw_iff {c : Nat → Nat} (h6 : c 0 ≤ 6) (hm : ∀ j, j < 17 → c j ≤ 4294967295) : (∀ j, j < 17 → lw (lst c) j = c j) ↔ WList c := by
  constructor
  · intro h
    refine ⟨h6, fun i _ hi => hm i (by omega), fun i h1 h2 => ?_⟩
    rw [← h i h2]
    unfold lw
    rw [if_neg (by omega), List.getD_eq_getElem?_getD, List.getElem?_eq_none (by rw [lst_length]; omega)]; rfl
  · exact lw_lst
theorem tw_iff {c : Nat → Nat} : (∀ j, j < 17 → tw (tbl c) j = c j) ↔ c 16 = 0 := by
  constructor
  · intro h
    rw [← h 16 (by decide)]; rfl
  · intro h j hj
    unfold tw tbl
    by_cases e : j < 16
    · rw [if_pos e]
      by_cases e2 : j % 2 = 0
      · rw [if_pos e2]; simp only [Int.toNat_natCast]; congr 1; omega
      · rw [if_neg e2]; simp only [Int.toNat_natCast]; congr 1; omega
    · rw [if_neg e, show j = 16 by omega, h]
theorem tyw_iff {c : Nat → Nat} : (∀ j, j < 17 → tyw (c 0 : Nat) j = c j) ↔ ∀ j, 1 ≤ j → j < 17 → c j = 0 := by
  constructor
  · intro h j h1 h2
    rw [← h j h2]; unfold tyw; rw [if_neg (by omega)]
  · intro h j hj
    unfold tyw
    by_cases e : j = 0
    · subst e; rw [if_pos rfl]; exact Int.toNat_natCast _
    · rw [if_neg e, h j (by omega) hj]

theorem ThingOf_is {kind : Int} {bc oc kc : Nat} {c : Nat → Nat} {b : Bool} (hb : b = true ↔ isTh kind c) {w : World} (hc : Wf w bc oc c) :
    Calls Tryd.prog 5 #[.int .i64 kind, .slice (some ⟨bc, oc, none⟩) 17 kc] w fun e w' => ∃ v t x, v.oneCell' = true ∧ e = .returned (.tuple #[.agg (tg kind v t x).toArray, .bool b]) ∧ (b = true → Th w.heap.size w' kind c v t x) ∧ Below w.heap.size w w' := by
  have no : ¬ isTh kind c → (Calls Tryd.prog 5 #[.int .i64 kind, .slice (some ⟨bc, oc, none⟩) 17 kc] w fun e w' => ∃ v t x, v.oneCell' = true ∧ e = .returned (.tuple #[.agg (tg kind v t x).toArray, .bool false]) ∧ Below w.heap.size w w') →
      Calls Tryd.prog 5 #[.int .i64 kind, .slice (some ⟨bc, oc, none⟩) 17 kc] w fun e w' => ∃ v t x, v.oneCell' = true ∧ e = .returned (.tuple #[.agg (tg kind v t x).toArray, .bool b]) ∧ (b = true → Th w.heap.size w' kind c v t x) ∧ Below w.heap.size w w' := by
    intro hn h
    have e : b = false := by cases b with
      | false => rfl
      | true => exact absurd (hb.1 rfl) hn
    subst e
    exact h.mono fun _ _ ⟨v, t, x, h1, h2, h3⟩ => ⟨v, t, x, h1, h2, (fun h => absurd h (by decide)), h3⟩
  by_cases hk : 1 ≤ kind ∧ kind ≤ 6
  · by_cases hm : ∀ j, j < 17 → c j ≤ 4294967295
    · have hkk : kind ≤ 4 ∨ kind = 5 ∨ kind = 6 := by omega
      rcases hkk with hk4 | hk5 | hk6
      · by_cases h6 : c 0 ≤ 6
        · have hl := lw_iff h6 hm
          by_cases h4 : kind = 4
          · by_cases hp : Hp (lst c)
            · refine (ThingOf_4 (b := b) ⟨hk.1, hk4⟩ hc hm h6 h4 hp ?_).mono fun e w' ⟨v, h1, h2, h3⟩ => ⟨v, Tb.zero, 0, ?_, h1, fun _ => ⟨fun _ => ⟨h2, rfl, rfl⟩, fun h => by omega, fun h => by omega⟩, h3⟩
              · rw [hb, hl]; unfold isTh; subst h4; simp [hp]
              · obtain ⟨a, k, rfl⟩ := h2.form; rfl
            · exact no (by unfold isTh; subst h4; simp [hp]) (ThingOf_4n (b := b) ⟨hk.1, hk4⟩ hc hm h6 h4 hp)
          · refine (ThingOf_l (b := b) ⟨hk.1, hk4⟩ hc hm h6 h4 ?_).mono fun e w' ⟨v, h1, h2, h3⟩ => ⟨v, Tb.zero, 0, ?_, h1, fun _ => ⟨fun _ => ⟨h2, rfl, rfl⟩, fun h => by omega, fun h => by omega⟩, h3⟩
            · rw [hb, hl]; unfold isTh
              constructor
              · rintro (⟨_, h⟩ | ⟨h, _⟩ | ⟨h, _⟩ | ⟨h, _⟩)
                · exact h
                · omega
                · omega
                · omega
              · intro h; exact Or.inl ⟨by omega, h⟩
            · obtain ⟨a, k, rfl⟩ := h2.form; rfl
        · refine no ?_ (ThingOf_long (b := b) ⟨hk.1, hk4⟩ hc hm (by omega))
          rintro (⟨_, h⟩ | ⟨_, h, _⟩ | ⟨h, _⟩ | ⟨h, _⟩)
          · exact h6 h.len
          · exact h6 h.len
          · omega
          · omega
      · by_cases hr : RT (tbl c)
        · refine (ThingOf_5 (b := b) hc hm hr ?_ hk5).mono fun e w' ⟨h1, h3⟩ => ⟨.slice none 0 0, tbl c, 0, rfl, by rw [h1, hk5], fun _ => ⟨fun h => by omega, fun _ => ⟨rfl, rfl, rfl⟩, fun h => by omega⟩, h3⟩
          rw [hb, tw_iff]; unfold isTh WT; subst hk5; simp [hr]; intro h j hj; exact hm j (by omega)
        · exact no (by unfold isTh WT; subst hk5; simp [hr]) ((ThingOf_5n (b := b) hc hm hr hk5).mono fun e w' ⟨h1, h3⟩ => ⟨.slice none 0 0, tbl c, 0, rfl, by rw [h1, hk5], h3⟩)
      · refine (ThingOf_6 (b := b) hc hm ?_ hk6).mono fun e w' ⟨h1, h3⟩ => ⟨.slice none 0 0, Tb.zero, (c 0 : Nat), rfl, by rw [h1, hk6], fun _ => ⟨fun h => by omega, fun h => by omega, fun _ => ⟨rfl, rfl, rfl⟩⟩, h3⟩
        rw [hb, tyw_iff]; unfold isTh WN; subst hk6; simp; intro h; exact hm 0 (by decide)
    · refine no (fun h => hm h.le) (ThingOf_big hk hc ?_)
      exact Classical.byContradiction fun h => hm fun j hj => by
        by_cases e : c j ≤ 4294967295
        · exact e
        · exact absurd ⟨j, hj, by omega⟩ h
  · exact no (fun h => hk h.kind) (ThingOf_bad (by omega) w)
end Go.Proofs.YtbmgjpdfmgcigabDoor.Tab
