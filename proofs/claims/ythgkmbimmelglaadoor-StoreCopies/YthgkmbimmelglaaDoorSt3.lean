/- Package store: Fence and Crash, by their contracts. -/
import Derived.Test.YthgkmbimmelglaaDoorSt2
namespace Go.Proofs.YthgkmbimmelglaaDoor
open Go.RowKit

/-- n cells of truth values, those of f. -/
def brow (f : Nat → Bool) (o n : Nat) : List Value := (List.range n).map fun i => .bool (f (o + i))
@[simp] theorem brow_length (f : Nat → Bool) (o n : Nat) : (brow f o n).length = n := by simp [brow]
theorem brow_at (f : Nat → Bool) (o n i : Nat) (h : i < n) : (brow f o n)[i]? = some (.bool (f (o + i))) := by simp [brow, h]
theorem brow_get (f : Nat → Bool) (o n i : Nat) (h : i < (brow f o n).length) : (brow f o n)[i] = .bool (f (o + i)) := by simp [brow]
theorem brow_one (f : Nat → Bool) (o n : Nat) : ∀ v ∈ brow f o n, v.oneCell' = true := by
  intro v hv; simp only [brow, List.mem_map] at hv; obtain ⟨_, _, rfl⟩ := hv; rfl
theorem StAt.want_row {w : World} {b : Nat} {s : St} (h : StAt w b s) (o n : Nat) (ho : o + n ≤ 36) : w.rangeAt b (144 + o) (brow s.want o n) := fun j v hv => by
  have hj : j < n := by simpa using (List.getElem?_eq_some_iff.1 hv).1
  rw [brow_at _ _ _ _ hj] at hv; cases hv
  rw [Nat.add_assoc]; exact h.wantc (by omega)

theorem no9_eq : (#[.bool false, .bool false, .bool false, .bool false, .bool false, .bool false, .bool false, .bool false, .bool false] : Array Value) = (brow (fun _ => false) 0 9).toArray := rfl
theorem no36_eq : (#[.bool false, .bool false, .bool false, .bool false, .bool false, .bool false, .bool false, .bool false, .bool false, .bool false, .bool false, .bool false, .bool false, .bool false, .bool false, .bool false, .bool false, .bool false, .bool false, .bool false, .bool false, .bool false, .bool false, .bool false, .bool false, .bool false, .bool false, .bool false, .bool false, .bool false, .bool false, .bool false, .bool false, .bool false, .bool false, .bool false] : Array Value) = (brow (fun _ => false) 0 36).toArray := rfl

theorem nine_desc : Tryd.prog.underlying 63 = some (.array 9 4) := by kernel_rfl
theorem nine_size (f : Nat → Bool) (o : Nat) : (Tryd.prog.info? 63).map (·.size) = some (brow f o 9).length := by rw [brow_length]; kernel_rfl
theorem nine_zero : (Tryd.prog.info? 63).map (·.size) = some (brow (fun _ => false) 0 9).toArray.size := by kernel_rfl
theorem wants_zero : (Tryd.prog.info? 64).map (·.size) = some (brow (fun _ => false) 0 36).toArray.size := by kernel_rfl
theorem lines_desc : Tryd.prog.underlying 62 = some (.array 9 41) := by kernel_rfl
theorem lines_size (f : Nat → Int) (o : Nat) : (Tryd.prog.info? 62).map (·.size) = some (row f o 72).length := by rw [row_length]; kernel_rfl

/-- The first k lines that thread t wants are for good. -/
def St.fenced (s : St) (t k : Nat) : St := { s with good := fun i => if i / 8 < k ∧ s.want (9 * t + i / 8) = true then s.now i else s.good i }
theorem St.fenced_zero (s : St) (t : Nat) : s.fenced t 0 = s := by simp [St.fenced]
theorem St.fenced_yes (s : St) (t k : Nat) (h : s.want (9 * t + k) = true) : (s.fenced t k).stay k = s.fenced t (k + 1) := by
  simp only [St.fenced, St.stay, St.mk.injEq, true_and, and_true]
  funext i
  by_cases e : i / 8 = k
  · simp [e, h]
  · by_cases e2 : i / 8 < k
    · simp [e, e2, show i / 8 < k + 1 by omega]
    · simp [e, e2, show ¬ i / 8 < k + 1 by omega]
theorem St.fenced_no (s : St) (t k : Nat) (h : s.want (9 * t + k) = false) : s.fenced t k = s.fenced t (k + 1) := by
  simp only [St.fenced, St.mk.injEq, true_and, and_true]
  funext i
  by_cases e : i / 8 = k
  · simp [e, h]
  · by_cases e2 : i / 8 < k
    · simp [e2, show i / 8 < k + 1 by omega]
    · simp [e2, show ¬ i / 8 < k + 1 by omega]

/-- No wish of thread t stands. -/
def St.unwant (s : St) (t : Nat) : St := { s with want := fun i => if i / 9 = t then false else s.want i }
theorem StAt.unwanted {w : World} {b : Nat} {s : St} (hs : StAt w b s) {t : Nat} (ht : t < 4) : StAt (w.setCells b (144 + t * 9) (brow (fun _ => false) 0 9)) b (s.unwant t) := by
  refine hs.setCells _ _ (by simp; omega) _ (fun i hi => ?_) (fun j hj h => ?_)
  · have hi' : i < 9 := by simpa using hi
    rw [brow_get]
    have h := (s.unwant t).at_want (a := t * 9 + i) (by omega)
    rw [← Nat.add_assoc] at h
    rw [h]
    simp [St.unwant, show (t * 9 + i) / 9 = t by omega]
  · have h' : j < 144 + t * 9 ∨ 144 + t * 9 + 9 ≤ j := by simpa using h
    unfold St.at St.unwant
    by_cases h1 : j < 72
    · simp [h1]
    · by_cases h2 : j < 144
      · simp [h1, h2]
      · by_cases h3 : j < 180
        · simp [h1, h2, h3, show ¬ (j - 144) / 9 = t by omega]
        · simp [h1, h2, h3]
theorem St.fence_eq (s : St) (t : Nat) (j : Nat) (hj : j < 182) :
    (s.fence t).at j = if j = 181 then .int .i64 (wrap64 (s.fe + 1)) else ((s.fenced t 9).unwant t).at j := by
  unfold St.at St.fence St.fenced St.unwant
  by_cases e : j = 181
  · subst e; simp
  · by_cases h1 : j < 72
    · simp [e, h1]
    · by_cases h2 : j < 144
      · simp [e, h1, h2, show (j - 72) / 8 < 9 by omega]
      · by_cases h3 : j < 180
        · simp [e, h1, h2, h3]
        · have : j = 180 := by omega
          subst this; simp

theorem run_index_nine (w : World) (cs : List Value) (k : Nat) (hk : k < 9) (B : Bool) (hc : cs[k]? = some (.bool B)) :
    (Instr.index 63 (.agg cs.toArray) (.int .i64 k)).run Tryd.prog w = .ok (.bool B) w := by
  have hb : (0 : Int) ≤ (k : Int) ∧ (k : Int) < ((9 : Nat) : Int) := by omega
  simp [Instr.index, asIntOf, part, hc]
  omega

set_option maxHeartbeats 400000 in
theorem Fence_yes (t b : Nat) (s : St) (w : World) (ht : t < 4) (hs : StAt w b s) :
    Calls Tryd.prog 22 #[.pointer (some ⟨b, 0, none⟩), .int .i64 t] w fun e w' => e = .returned .nilIface ∧ StAt w' b (s.fence t) ∧ Only b w w' := by
  have hr := hs.want_row (t * 9) 9 (by omega)
  have hd := nine_desc
  have hi := nine_size s.want (t * 9)
  have C : Hid (∀ k, k < 9 → (brow s.want (t * 9) 9)[k]? = some (.bool (s.want (9 * t + k)))) := fun k hk => by rw [brow_at _ _ _ _ hk, Nat.mul_comm]
  generalize brow s.want (t * 9) 9 = cs at *
  go_enter Tryd.func22, Tryd.ntmps22
  go_wp2_with (first
    | (go_at_call 28; refine (among_yes _ _ _ (by omega) (by omega)).mono ?_; rintro e w' ⟨rfl, rfl⟩)
    | (refine wpList_load_mid rfl 63 _ rfl b _ rfl cs _ hr hd rfl hi ?_))
  clear hr hd hi
  go_loopw [17] (fun i wr => ∃ k : Nat, k ≤ 9 ∧ i = .int .i64 k ∧ StAt wr b (s.fenced t k) ∧ Only b w' wr)
    (fun i _ => 9 - (intOf i).toNat)
  case atStart => exact ⟨0, by omega, rfl, by rw [St.fenced_zero]; exact hs, Only.refl _ _⟩
  case round =>
    obtain ⟨k, hk, rfl, h1, o1⟩ := hrel
    by_cases hlt : k < 9
    · cases hB : s.want (9 * t + k) with
      | true =>
        have hix := fun w => run_index_nine w cs k hlt true (by rw [C.out k hlt, hB])
        have N : Hid _ := s.fenced_yes t k hB
        clear hB
        go_wp2_with (go_at_call 31; refine (keep_any k b _ _ hlt h1).mono ?_; rintro e w2 ⟨rfl, h2, o2⟩)
        go_roundw
        case rel => exact ⟨k + 1, by omega, by go_num, by rw [← N.out]; exact h2, o1.trans o2⟩
        case measure => simp [intOf]; omega
      | false =>
        have hix := fun w => run_index_nine w cs k hlt false (by rw [C.out k hlt, hB])
        have N : Hid _ := s.fenced_no t k hB
        clear hB
        go_wp2
        go_roundw
        case rel => exact ⟨k + 1, by omega, by go_num, by rw [← N.out]; exact h1, o1⟩
        case measure => simp [intOf]; omega
    · obtain rfl : k = 9 := by omega
      clear C hk hlt
      have h3 := h1.unwanted ht
      have o3 := o1.setCells (brow (fun _ => false) 0 9) (144 + t * 9)
      have TH := h1.there (144 + t * 9) (brow (fun _ => false) 0 9).toArray.size (by simp; omega)
      have HN := no9_eq
      have HI := nine_zero
      have HO := all_oneCell_toArray (brow_one (fun _ => false) 0 9)
      generalize brow (fun _ => false) 0 9 = ns at *
      have A1 : Hid _ := And.intro TH (And.intro HN (And.intro HI HO))
      have hfe : Hid _ := And.intro (show _ = some (Value.int .i64 s.fe) from h3.fec) (h3.froz 181)
      have E : Hid _ := h3.setCell 181 _ (by decide) _ (s.fence_eq t)
      have O : Hid _ := o3.setCell 181 (.int .i64 (wrap64 (s.fe + 1)))
      clear TH HN HI HO h3 o3
      go_wp2_with (refine wpList_store_mid rfl 63 _ _ rfl b _ ns.toArray rfl (congrArg Value.agg A1.out.2.1) A1.out.1 A1.out.2.2.1 A1.out.2.2.2 ?_; obtain ⟨hfe, hfz⟩ := hfe.out)
      go_ret
      exact ⟨rfl, E.out, O.out⟩

/-- The first k lines whose bits of x are 1 are for good. -/
def St.landing (s : St) (x k : Nat) : St := { s with good := fun i => if i / 8 < k ∧ x.testBit (i / 8) = true then s.now i else s.good i }
theorem St.landing_zero (s : St) (x : Nat) : s.landing x 0 = s := by simp [St.landing]
theorem St.landing_yes (s : St) (x k : Nat) (h : x.testBit k = true) : (s.landing x k).stay k = s.landing x (k + 1) := by
  simp only [St.landing, St.stay, St.mk.injEq, true_and, and_true]
  funext i
  by_cases e : i / 8 = k
  · simp [e, h]
  · by_cases e2 : i / 8 < k
    · simp [e, e2, show i / 8 < k + 1 by omega]
    · simp [e, e2, show ¬ i / 8 < k + 1 by omega]
theorem St.landing_no (s : St) (x k : Nat) (h : x.testBit k = false) : s.landing x k = s.landing x (k + 1) := by
  simp only [St.landing, St.mk.injEq, true_and, and_true]
  funext i
  by_cases e : i / 8 = k
  · simp [e, h]
  · by_cases e2 : i / 8 < k
    · simp [e2, show i / 8 < k + 1 by omega]
    · simp [e2, show ¬ i / 8 < k + 1 by omega]

/-- All lines are as they are for good. -/
def St.back (s : St) : St := { s with now := s.good }
theorem StAt.backed {w : World} {b : Nat} {s : St} (hs : StAt w b s) : StAt (w.setCells b 0 (row s.good 0 72)) b s.back := by
  refine hs.setCells _ _ (by simp) _ (fun i hi => ?_) (fun j hj h => ?_)
  · have hi' : i < 72 := by simpa using hi
    rw [row_get, Nat.zero_add, St.at_now _ hi']
    rfl
  · have h' : 72 ≤ j := by simpa using h
    unfold St.at St.back
    simp [show ¬ j < 72 by omega]
theorem StAt.unwished {w : World} {b : Nat} {s : St} (hs : StAt w b s) (s' : St) (h1 : ∀ i, i < 72 → s'.now i = s.now i) (h2 : ∀ i, i < 72 → s'.good i = s.good i) (h3 : ∀ i, s'.want i = false) (h4 : s'.fl = s.fl) (h5 : s'.fe = s.fe) :
    StAt (w.setCells b 144 (brow (fun _ => false) 0 36)) b s' := by
  refine hs.setCells _ _ (by simp) _ (fun i hi => ?_) (fun j hj h => ?_)
  · have hi' : i < 36 := by simpa using hi
    rw [brow_get, St.at_want _ hi', h3]
  · have h' : j < 144 ∨ 144 + 36 ≤ j := by simpa using h
    unfold St.at
    by_cases k1 : j < 72
    · simp [k1, h1 j k1]
    · by_cases k2 : j < 144
      · simp [k1, k2, h2 (j - 72) (by omega)]
      · simp [k1, k2, show ¬ j < 180 by omega, h4, h5]

set_option maxHeartbeats 400000 in
theorem Crash_any (x b : Nat) (s : St) (w : World) (hx : x < 18446744073709551616) (hs : StAt w b s) :
    Calls Tryd.prog 17 #[.pointer (some ⟨b, 0, none⟩), .int .u64 x] w fun e w' => e = .returned (.tuple #[]) ∧ StAt w' b (s.crash x) ∧ Only b w w' := by
  go_enter Tryd.func17, Tryd.ntmps17
  go_wp2
  go_loopw [5] (fun i wr => ∃ k : Nat, k ≤ 9 ∧ i = .int .i64 k ∧ StAt wr b (s.landing x k) ∧ Only b w wr)
    (fun i _ => 9 - (intOf i).toNat)
  case atStart => exact ⟨0, by omega, rfl, by rw [St.landing_zero]; exact hs, Only.refl _ _⟩
  case round =>
    obtain ⟨k, hk, rfl, h1, o1⟩ := hrel
    by_cases hlt : k < 9
    · cases hB : x.testBit k with
      | true =>
        have N : Hid _ := s.landing_yes x k hB
        have B : Hid _ := hB
        clear hB
        go_wp2_with (first
          | (go_at_call 30; refine (Bit_yes x k _ hx (by omega)).mono ?_; rintro e w3 ⟨rfl, hw⟩; rw [B.out, hw]; clear hw)
          | (go_at_call 31; refine (keep_any k b _ _ hlt h1).mono ?_; rintro e w2 ⟨rfl, h2, o2⟩))
        go_roundw
        case rel => exact ⟨k + 1, by omega, by go_num, by rw [← N.out]; exact h2, o1.trans o2⟩
        case measure => simp [intOf]; omega
      | false =>
        have N : Hid _ := s.landing_no x k hB
        have B : Hid _ := hB
        clear hB
        go_wp2_with (go_at_call 30; refine (Bit_yes x k _ hx (by omega)).mono ?_; rintro e w3 ⟨rfl, hw⟩; rw [B.out, hw]; clear hw)
        go_roundw
        case rel => exact ⟨k + 1, by omega, by go_num, by rw [← N.out]; exact h1, o1⟩
        case measure => simp [intOf]; omega
    · obtain rfl : k = 9 := by omega
      clear hk hlt
      have h2 := h1.backed
      have o2 := o1.setCells (row (s.landing x 9).good 0 72) 0
      have R := h1.good_row 0 72 (by decide)
      have RI := lines_size (s.landing x 9).good 0
      have RO := all_oneCell_toArray (row_one (s.landing x 9).good 0 72)
      have RT := h1.there 0 (row (s.landing x 9).good 0 72).toArray.size (by simp)
      have RL := row_length (s.landing x 9).good 0 72
      generalize row (s.landing x 9).good 0 72 = cs at *
      have h3 := h2.unwished (s.crash x) (fun i hi => by simp [St.crash, St.back, St.landing, St.landed, show i / 8 < 9 by omega]) (fun i hi => by simp [St.crash, St.back, St.landing, St.landed, show i / 8 < 9 by omega]) (fun _ => rfl) rfl rfl
      have o3 := o2.setCells (brow (fun _ => false) 0 36) 144
      have TH := h2.there 144 (brow (fun _ => false) 0 36).toArray.size (by simp)
      have HN := no36_eq
      have HI := wants_zero
      have HO := all_oneCell_toArray (brow_one (fun _ => false) 0 36)
      generalize brow (fun _ => false) 0 36 = ns at *
      have RJ : (Tryd.prog.info? 62).map (·.size) = some cs.toArray.size := by rw [List.size_toArray]; exact RI
      have A1 : Hid _ := And.intro TH (And.intro HN (And.intro HI HO))
      have A2 : Hid _ := And.intro R (And.intro RI (And.intro RT (And.intro RJ RO)))
      have E : Hid _ := h3
      have O : Hid _ := o3
      clear TH HN HI HO R RI RT RJ RO RL h3 o3 h2 o2
      go_wp2_with (first
        | (refine wpList_load_mid rfl 62 _ rfl b _ rfl cs _ A2.out.1 lines_desc rfl A2.out.2.1 ?_)
        | (refine wpList_store_mid rfl 62 _ _ rfl b _ cs.toArray rfl rfl A2.out.2.2.1 A2.out.2.2.2.1 A2.out.2.2.2.2 ?_)
        | (refine wpList_store_mid rfl 64 _ _ rfl b _ ns.toArray rfl (congrArg Value.agg A1.out.2.1) A1.out.1 A1.out.2.2.1 A1.out.2.2.2 ?_))
      go_end0
      exact ⟨rfl, E.out, O.out⟩
end Go.Proofs.YthgkmbimmelglaaDoor
