/- Objects as words: what words are, as what they lie in memory; facts of no program. -/
import Derived.Test.YtbmgjpdfmgcigabDoorTr
import Derived.Test.YtbmgjpdfmgcigabDoorLs
namespace Go.Proofs.YtbmgjpdfmgcigabDoor.Tab
set_option maxRecDepth 20000
open Go.RowKit

/-- Seventeen words as they lie. -/
def wl (c : Nat → Nat) : List Value := (List.range 17).map fun j => .int .u64 (c j : Nat)
theorem wl_length (c : Nat → Nat) : (wl c).length = 17 := by simp [wl]
theorem wl_at (c : Nat → Nat) {j : Nat} (h : j < 17) : (wl c)[j]? = some (.int .u64 (c j : Nat)) := by simp [wl, h]
theorem wl_one (c : Nat → Nat) : ∀ v ∈ wl c, v.oneCell' = true := by
  intro v hv; simp only [wl, List.mem_map] at hv; obtain ⟨j, _, rfl⟩ := hv; rfl
theorem wl_all (c : Nat → Nat) : (wl c).toArray.all (·.oneCell') = true := all_oneCell_toArray (wl_one c)
theorem wl_congr {c d : Nat → Nat} (h : ∀ j, j < 17 → c j = d j) : wl c = wl d := by
  unfold wl
  refine List.map_congr_left fun j hj => ?_
  rw [h j (by simpa using hj)]
theorem wl_inj {c d : Nat → Nat} (h : wl c = wl d) : ∀ j, j < 17 → c j = d j := by
  intro j hj
  have h1 := wl_at c hj
  rw [h, wl_at d hj] at h1
  simp at h1
  omega
def wz : Nat → Nat := fun _ => 0
theorem wz_all : (wl wz).toArray = #[.int .u64 0, .int .u64 0, .int .u64 0, .int .u64 0, .int .u64 0, .int .u64 0, .int .u64 0, .int .u64 0, .int .u64 0, .int .u64 0, .int .u64 0, .int .u64 0, .int .u64 0, .int .u64 0, .int .u64 0, .int .u64 0, .int .u64 0] := rfl

/-- A row of cells that is written whole, one cell of it that is written. -/
theorem Bo.setL {w : World} {b : Nat} {cs ds : List Value} (h : Bo w b cs) (hl : ds.length = cs.length) : Bo (w.setCells b 0 ds) b ds where
  cell j v hv := by
    have hj : j < ds.length := (List.getElem?_eq_some_iff.1 hv).1
    have := World.cell?_setCells_in b ds 0 w (fun k hk => by
      have hk' : k < cs.length := hl ▸ hk
      rw [Nat.zero_add, h.cell k _ (List.getElem?_eq_getElem hk')]; rfl) j hj
    rw [Nat.zero_add] at this
    rw [this]
    rw [List.getElem?_eq_getElem hj] at hv
    exact hv
  froz j := by rw [World.frozen?_setCells]; exact h.froz j
  lt := by rw [size_setCells]; exact h.lt
theorem Bo.thereL {w : World} {b : Nat} {cs : List Value} (h : Bo w b cs) {n : Nat} (hn : n = cs.length) : w.there b 0 n := fun j hj =>
  ⟨by rw [Nat.zero_add, h.cell j _ (List.getElem?_eq_getElem (hn ▸ hj))]; rfl, h.froz _⟩
theorem Bo.thereW {w : World} {b : Nat} {c : Nat → Nat} (h : Bo w b (wl c)) (d : Nat → Nat) : w.there b 0 (wl d).toArray.size := by
  rw [List.size_toArray, wl_length]; exact h.thereL (wl_length c).symm
theorem Bo.setW {w : World} {b : Nat} {c : Nat → Nat} (h : Bo w b (wl c)) (d : Nat → Nat) : Bo (w.setCells b 0 (wl d)) b (wl d) := h.setL (by rw [wl_length, wl_length])
theorem Bo.set1 {w : World} {b j : Nat} {cs : List Value} {x : Value} (h : Bo w b cs) (hj : j < cs.length) {ds : List Value} (hd : cs.set j x = ds) : Bo (w.setCell ⟨b, j, none⟩ x) b ds where
  cell k v hv := by
    subst hd
    by_cases e : k = j
    · subst e
      rw [World.cell?_setCell_same _ _ _ (h.cell k _ (List.getElem?_eq_getElem hj))]
      rw [List.getElem?_set_self hj] at hv
      exact hv
    · rw [World.cell?_setCell_other _ _ _ _ (by intro e2; injection e2 with _ e3; exact e e3.symm)]
      rw [List.getElem?_set_ne (fun h => e h.symm)] at hv
      exact h.cell k v hv
  froz k := by rw [World.frozen?_setCell]; exact h.froz k
  lt := by simpa using h.lt
def upw (c : Nat → Nat) (j x : Nat) : Nat → Nat := fun k => if k = j then x else c k
theorem wl_set (c : Nat → Nat) {j : Nat} (x : Nat) (hj : j < 17) : (wl c).set j (.int .u64 (x : Nat)) = wl (upw c j x) := by
  apply List.ext_getElem?
  intro k
  by_cases hk : k < 17
  · rw [wl_at _ hk, List.getElem?_set, wl_length]
    by_cases e : j = k
    · subst e; simp [hj, upw]
    · rw [if_neg e, wl_at _ hk]; simp [upw, show k ≠ j from fun h => e h.symm]
  · rw [List.getElem?_eq_none (by rw [List.length_set, wl_length]; omega), List.getElem?_eq_none (by rw [wl_length]; omega)]
theorem Bo.setw {w : World} {b j : Nat} {c : Nat → Nat} (h : Bo w b (wl c)) (x : Nat) (hj : j < 17) : Bo (w.setCell ⟨b, j, none⟩ (.int .u64 (x : Nat))) b (wl (upw c j x)) :=
  h.set1 (by rw [wl_length]; exact hj) (wl_set c x hj)
theorem Bo.word {w : World} {b j : Nat} {c : Nat → Nat} (h : Bo w b (wl c)) (hj : j < 17) : w.cell? ⟨b, j, none⟩ = some (.int .u64 (c j : Nat)) := h.cell j _ (wl_at c hj)
theorem Bo.drewN {w : World} {b : Nat} {cs : List Value} (h : Bo w b cs) (q : Nat) : Bo (w.drewN q) b cs := ⟨h.cell, h.froz, h.lt⟩

/-- What the words of a list are: 11.1. -/
structure WList (c : Nat → Nat) : Prop where
  len : c 0 ≤ 6
  val : ∀ i, 1 ≤ i → i ≤ c 0 → c i ≤ 4294967295
  rest : ∀ i, c 0 < i → i < 17 → c i = 0
def lst (c : Nat → Nat) : List Int := (List.range (c 0)).map fun i => ((c (i + 1) : Nat) : Int)
def lw (l : List Int) : Nat → Nat := fun j => if j = 0 then l.length else (l.getD (j - 1) 0).toNat
theorem lst_length (c : Nat → Nat) : (lst c).length = c 0 := by simp [lst]
theorem lst_at (c : Nat → Nat) {i : Nat} (h : i < c 0) : (lst c).getD i 0 = (c (i + 1) : Nat) := by simp [lst, List.getD, h]
theorem lst_val {c : Nat → Nat} (h : WList c) : ∀ x ∈ lst c, 0 ≤ x ∧ x ≤ 4294967295 := by
  intro x hx
  simp only [lst, List.mem_map, List.mem_range] at hx
  obtain ⟨i, hi, rfl⟩ := hx
  have := h.val (i + 1) (by omega) (by omega)
  omega
theorem lw_lst {c : Nat → Nat} (h : WList c) : ∀ j, j < 17 → lw (lst c) j = c j := by
  intro j hj
  unfold lw
  by_cases e : j = 0
  · subst e; simp [lst_length]
  · rw [if_neg e]
    by_cases hl : j - 1 < c 0
    · rw [lst_at c hl, show j - 1 + 1 = j by omega]; simp
    · have : (lst c).getD (j - 1) 0 = 0 := by rw [List.getD_eq_getElem?_getD, List.getElem?_eq_none (by rw [lst_length]; omega)]; rfl
      rw [this, h.rest j (by omega) hj]; rfl
theorem lw_in {l : List Int} (hl : l.length ≤ 6) (hv : ∀ x ∈ l, 0 ≤ x ∧ x ≤ 4294967295) : WList (lw l) where
  len := by simpa [lw] using hl
  val i h1 h2 := by
    have h2' : i ≤ l.length := by simpa [lw] using h2
    have e : i ≠ 0 := by omega
    unfold lw; rw [if_neg e]
    have hi : i - 1 < l.length := by omega
    have := hv (l[i - 1]) (List.getElem_mem hi)
    rw [List.getD_eq_getElem?_getD, List.getElem?_eq_getElem hi]
    simp only [Option.getD_some]
    omega
  rest i h1 h2 := by
    have h1' : l.length < i := by simpa [lw] using h1
    unfold lw; rw [if_neg (by omega), List.getD_eq_getElem?_getD, List.getElem?_eq_none (by omega)]; rfl
theorem lst_lw {l : List Int} (hv : ∀ x ∈ l, 0 ≤ x ∧ x ≤ 4294967295) : lst (lw l) = l := by
  have h0 : lw l 0 = l.length := by simp [lw]
  apply List.ext_getElem
  · rw [lst_length, h0]
  · intro i h1 h2
    have := hv (l[i]) (List.getElem_mem h2)
    simp only [lst, List.getElem_map, List.getElem_range]
    unfold lw
    rw [if_neg (by omega), Nat.add_sub_cancel, List.getD_eq_getElem?_getD, List.getElem?_eq_getElem h2]
    simp only [Option.getD_some]
    omega

/-- What the words of a table are: 11.1. -/
def tbl (c : Nat → Nat) : Tb := ⟨fun i => (c (2 * i) : Nat), fun i => (c (2 * i + 1) : Nat)⟩
def tw (t : Tb) : Nat → Nat := fun j => if j < 16 then (if j % 2 = 0 then (t.k (j / 2)).toNat else (t.v (j / 2)).toNat) else 0
def tyw (n : Int) : Nat → Nat := fun j => if j = 0 then n.toNat else 0
end Go.Proofs.YtbmgjpdfmgcigabDoor.Tab
