/- Package object: Do, where it refuses. -/
import Derived.Test.YtbmgjpdfmgcigabDoorObG
import Derived.Test.YtbmgjpdfmgcigabDoorRp
import Derived.Test.YtbmgjpdfmgcigabDoorPk
import Derived.Deep.DeepCutAuto
import Derived.Deep.RegionHeld3
namespace Go.Proofs.YtbmgjpdfmgcigabDoor.Tab
set_option maxRecDepth 20000
open Go.RowKit
set_option linter.unusedVariables false

/-- What Do hands back: an object, an answer, no error. -/
def DidD (w : World) (d : Nat → Nat) (cc y : Int) (e : Ending) (w' : World) : Prop := e = .returned (.tuple #[.agg (wl d).toArray, .agg #[.int .i64 cc, .int .i64 y], .nilIface]) ∧ Below w.heap.size w w'
def Refd (w : World) (e : Ending) (w' : World) : Prop := e = .returned (.tuple #[.agg (wl wz).toArray, .agg #[.int .i64 0, .int .i64 0], .iface 45 (.int .i64 1)]) ∧ Below w.heap.size w w'
theorem results_row3 {P : Program} {fn : Func} {p q r : Tmp} {ty tz : TypeId} (h : fn.results = #[.cell p ty, .cell q tz, .tmp r]) (tmps : Array Value) (w : World) (b c : Nat) (cs ds : List Value) (x : Value) (d e : TypeDesc) (hp : tmps.getD p undef = .pointer (some ⟨b, 0, none⟩)) (hq : tmps.getD q undef = .pointer (some ⟨c, 0, none⟩)) (hr : tmps.getD r undef = x)
    (hc : w.rangeAt b 0 cs) (hu : P.underlying ty = some d) (hd : d.isRow = true) (hi : (P.info? ty).map (·.size) = some cs.length)
    (hc2 : w.rangeAt c 0 ds) (hu2 : P.underlying tz = some e) (hd2 : e.isRow = true) (hi2 : (P.info? tz).map (·.size) = some ds.length) :
    (results fn tmps).run P w = .ok (.tuple #[.agg cs.toArray, .agg ds.toArray, x]) w := by
  have hp' : tmps[p]?.getD undef = .pointer (some ⟨b, 0, none⟩) := by simpa using hp
  have hq' : tmps[q]?.getD undef = .pointer (some ⟨c, 0, none⟩) := by simpa using hq
  have hr' : tmps[r]?.getD undef = x := by simpa using hr
  simp [results, h, hp', hq', hr', asAddr, run_loadVar_mid w b 0 ty cs d hc hu hd hi, run_loadVar_mid w c 0 tz ds e hc2 hu2 hd2 hi2]
theorem opR_yes {o k v : Int} (h : Rt o k v) (w : World) : Calls Tryd.prog 17 #[.agg #[.int .i64 o, .int .i64 k, .int .i64 v]] w fun e w' => e = .returned (.bool true) ∧ Below w.heap.size w w' :=
  (opRight_is h w).mono fun e w' ⟨he, hw⟩ => ⟨he, hw ▸ new_below w _⟩
theorem opR_no {o k v : Int} (h : ¬ Rt o k v) (w : World) : Calls Tryd.prog 17 #[.agg #[.int .i64 o, .int .i64 k, .int .i64 v]] w fun e w' => e = .returned (.bool false) ∧ Below w.heap.size w w' :=
  (opRight_isnt h w).mono fun e w' ⟨he, hw⟩ => ⟨he, hw ▸ new_below w _⟩
set_option maxHeartbeats 2000000 in
theorem obDo_wrong {kind o k x : Int} {c : Nat → Nat} (hR : ¬ Rt o k x) (w : World) :
    Calls Tryd.prog 6 #[.int .i64 kind, .agg (wl c).toArray, .agg #[.int .i64 o, .int .i64 k, .int .i64 x]] w (Refd w) := by
  have HA : Hid ((Tryd.prog.info? 38).map (·.size) = some 2) := answer_sz
  obtain ⟨fs, ha⟩ := answer_st
  have HDA : Hid _ := ha
  clear ha
  obtain ⟨nb, eb, hd⟩ := cells_array
  have HC : Hid _ := hd
  clear hd
  have HCS : Hid _ := cells_size
  have HCZ : Hid _ := cells_size2
  have g0 : Hid (Gd w.heap.size w w) := Gd.refl w
  have OR : Hid (∀ w : World, _) := fun w => opR_no hR w
  clear hR
  have h1q : Hid (Gd w.heap.size w (w.alloc (.cells (wl c).toArray 24))) := g0.out.new (.cells (wl c).toArray 24)
  clear g0
  have h2q : Hid (Bo (w.alloc (.cells (wl c).toArray 24)) w.heap.size (wl c)) := Bo.born w (wl c) 24 (by simp)
  have h3q : Hid (Gd w.heap.size w ((w.alloc (.cells (wl c).toArray 24)).alloc (.cells #[.int .i64 o, .int .i64 k, .int .i64 x] 26))) := h1q.out.new (.cells #[.int .i64 o, .int .i64 k, .int .i64 x] 26)
  have h4q : Hid (Bo ((w.alloc (.cells (wl c).toArray 24)).alloc (.cells #[.int .i64 o, .int .i64 k, .int .i64 x] 26)) w.heap.size (wl c)) := h2q.out.new (.cells #[.int .i64 o, .int .i64 k, .int .i64 x] 26)
  clear h1q h2q
  have h5q : Hid (Bo ((w.alloc (.cells (wl c).toArray 24)).alloc (.cells #[.int .i64 o, .int .i64 k, .int .i64 x] 26)) (w.heap.size + 1) [.int .i64 o, .int .i64 k, .int .i64 x]) := Bo.born (w.alloc (.cells (wl c).toArray 24)) [.int .i64 o, .int .i64 k, .int .i64 x] 26 (by simp)
  have h6q : Hid (Gd w.heap.size w (((w.alloc (.cells (wl c).toArray 24)).alloc (.cells #[.int .i64 o, .int .i64 k, .int .i64 x] 26)).alloc (.cells #[.int .u64 0, .int .u64 0, .int .u64 0, .int .u64 0, .int .u64 0, .int .u64 0, .int .u64 0, .int .u64 0, .int .u64 0, .int .u64 0, .int .u64 0, .int .u64 0, .int .u64 0, .int .u64 0, .int .u64 0, .int .u64 0, .int .u64 0] 24))) := h3q.out.new (.cells #[.int .u64 0, .int .u64 0, .int .u64 0, .int .u64 0, .int .u64 0, .int .u64 0, .int .u64 0, .int .u64 0, .int .u64 0, .int .u64 0, .int .u64 0, .int .u64 0, .int .u64 0, .int .u64 0, .int .u64 0, .int .u64 0, .int .u64 0] 24)
  have h7q : Hid (Bo (((w.alloc (.cells (wl c).toArray 24)).alloc (.cells #[.int .i64 o, .int .i64 k, .int .i64 x] 26)).alloc (.cells #[.int .u64 0, .int .u64 0, .int .u64 0, .int .u64 0, .int .u64 0, .int .u64 0, .int .u64 0, .int .u64 0, .int .u64 0, .int .u64 0, .int .u64 0, .int .u64 0, .int .u64 0, .int .u64 0, .int .u64 0, .int .u64 0, .int .u64 0] 24)) w.heap.size (wl c)) := h4q.out.new (.cells #[.int .u64 0, .int .u64 0, .int .u64 0, .int .u64 0, .int .u64 0, .int .u64 0, .int .u64 0, .int .u64 0, .int .u64 0, .int .u64 0, .int .u64 0, .int .u64 0, .int .u64 0, .int .u64 0, .int .u64 0, .int .u64 0, .int .u64 0] 24)
  have h8q : Hid (Bo (((w.alloc (.cells (wl c).toArray 24)).alloc (.cells #[.int .i64 o, .int .i64 k, .int .i64 x] 26)).alloc (.cells #[.int .u64 0, .int .u64 0, .int .u64 0, .int .u64 0, .int .u64 0, .int .u64 0, .int .u64 0, .int .u64 0, .int .u64 0, .int .u64 0, .int .u64 0, .int .u64 0, .int .u64 0, .int .u64 0, .int .u64 0, .int .u64 0, .int .u64 0] 24)) (w.heap.size + 1) [.int .i64 o, .int .i64 k, .int .i64 x]) := h5q.out.new (.cells #[.int .u64 0, .int .u64 0, .int .u64 0, .int .u64 0, .int .u64 0, .int .u64 0, .int .u64 0, .int .u64 0, .int .u64 0, .int .u64 0, .int .u64 0, .int .u64 0, .int .u64 0, .int .u64 0, .int .u64 0, .int .u64 0, .int .u64 0] 24)
  clear h3q h4q h5q
  have h9q : Hid (Bo (((w.alloc (.cells (wl c).toArray 24)).alloc (.cells #[.int .i64 o, .int .i64 k, .int .i64 x] 26)).alloc (.cells #[.int .u64 0, .int .u64 0, .int .u64 0, .int .u64 0, .int .u64 0, .int .u64 0, .int .u64 0, .int .u64 0, .int .u64 0, .int .u64 0, .int .u64 0, .int .u64 0, .int .u64 0, .int .u64 0, .int .u64 0, .int .u64 0, .int .u64 0] 24)) (w.heap.size + 2) (wl wz)) := Bo.born ((w.alloc (.cells (wl c).toArray 24)).alloc (.cells #[.int .i64 o, .int .i64 k, .int .i64 x] 26)) (wl wz) 24 (by simp)
  have h10q : Hid (Gd w.heap.size w ((((w.alloc (.cells (wl c).toArray 24)).alloc (.cells #[.int .i64 o, .int .i64 k, .int .i64 x] 26)).alloc (.cells #[.int .u64 0, .int .u64 0, .int .u64 0, .int .u64 0, .int .u64 0, .int .u64 0, .int .u64 0, .int .u64 0, .int .u64 0, .int .u64 0, .int .u64 0, .int .u64 0, .int .u64 0, .int .u64 0, .int .u64 0, .int .u64 0, .int .u64 0] 24)).alloc (.cells #[.int .i64 0, .int .i64 0] 38))) := h6q.out.new (.cells #[.int .i64 0, .int .i64 0] 38)
  have h11q : Hid (Bo ((((w.alloc (.cells (wl c).toArray 24)).alloc (.cells #[.int .i64 o, .int .i64 k, .int .i64 x] 26)).alloc (.cells #[.int .u64 0, .int .u64 0, .int .u64 0, .int .u64 0, .int .u64 0, .int .u64 0, .int .u64 0, .int .u64 0, .int .u64 0, .int .u64 0, .int .u64 0, .int .u64 0, .int .u64 0, .int .u64 0, .int .u64 0, .int .u64 0, .int .u64 0] 24)).alloc (.cells #[.int .i64 0, .int .i64 0] 38)) w.heap.size (wl c)) := h7q.out.new (.cells #[.int .i64 0, .int .i64 0] 38)
  have h12q : Hid (Bo ((((w.alloc (.cells (wl c).toArray 24)).alloc (.cells #[.int .i64 o, .int .i64 k, .int .i64 x] 26)).alloc (.cells #[.int .u64 0, .int .u64 0, .int .u64 0, .int .u64 0, .int .u64 0, .int .u64 0, .int .u64 0, .int .u64 0, .int .u64 0, .int .u64 0, .int .u64 0, .int .u64 0, .int .u64 0, .int .u64 0, .int .u64 0, .int .u64 0, .int .u64 0] 24)).alloc (.cells #[.int .i64 0, .int .i64 0] 38)) (w.heap.size + 1) [.int .i64 o, .int .i64 k, .int .i64 x]) := h8q.out.new (.cells #[.int .i64 0, .int .i64 0] 38)
  have h13q : Hid (Bo ((((w.alloc (.cells (wl c).toArray 24)).alloc (.cells #[.int .i64 o, .int .i64 k, .int .i64 x] 26)).alloc (.cells #[.int .u64 0, .int .u64 0, .int .u64 0, .int .u64 0, .int .u64 0, .int .u64 0, .int .u64 0, .int .u64 0, .int .u64 0, .int .u64 0, .int .u64 0, .int .u64 0, .int .u64 0, .int .u64 0, .int .u64 0, .int .u64 0, .int .u64 0] 24)).alloc (.cells #[.int .i64 0, .int .i64 0] 38)) (w.heap.size + 2) (wl wz)) := h9q.out.new (.cells #[.int .i64 0, .int .i64 0] 38)
  clear h6q h7q h8q h9q
  have h14q : Hid (Bo ((((w.alloc (.cells (wl c).toArray 24)).alloc (.cells #[.int .i64 o, .int .i64 k, .int .i64 x] 26)).alloc (.cells #[.int .u64 0, .int .u64 0, .int .u64 0, .int .u64 0, .int .u64 0, .int .u64 0, .int .u64 0, .int .u64 0, .int .u64 0, .int .u64 0, .int .u64 0, .int .u64 0, .int .u64 0, .int .u64 0, .int .u64 0, .int .u64 0, .int .u64 0] 24)).alloc (.cells #[.int .i64 0, .int .i64 0] 38)) (w.heap.size + 3) [.int .i64 0, .int .i64 0]) := Bo.born (((w.alloc (.cells (wl c).toArray 24)).alloc (.cells #[.int .i64 o, .int .i64 k, .int .i64 x] 26)).alloc (.cells #[.int .u64 0, .int .u64 0, .int .u64 0, .int .u64 0, .int .u64 0, .int .u64 0, .int .u64 0, .int .u64 0, .int .u64 0, .int .u64 0, .int .u64 0, .int .u64 0, .int .u64 0, .int .u64 0, .int .u64 0, .int .u64 0, .int .u64 0] 24)) [.int .i64 0, .int .i64 0] 38 (by simp)
  have c15q := h12q.out.at 0 rfl
  have c16q := h12q.out.at 1 rfl
  have c17q := h12q.out.at 2 rfl
  go_enter Tryd.func6, Tryd.ntmps6
  go_wp2_with fail
  refine (OR.out _).mono ?_
  rintro e u18q ⟨rfl, hb⟩
  have h19q : Hid (Gd w.heap.size w u18q) := h10q.out.later hb
  have h20q : Hid (Bo u18q w.heap.size (wl c)) := h11q.out.later hb
  have h21q : Hid (Bo u18q (w.heap.size + 1) [.int .i64 o, .int .i64 k, .int .i64 x]) := h12q.out.later hb
  have h22q : Hid (Bo u18q (w.heap.size + 2) (wl wz)) := h13q.out.later hb
  have h23q : Hid (Bo u18q (w.heap.size + 3) [.int .i64 0, .int .i64 0]) := h14q.out.later hb
  clear h10q h11q h12q h13q h14q
  clear hb
  generalize hsz : w.heap.size = n at h19q h20q h21q h22q h23q  ⊢
  have HSZ : Hid (w.heap.size = n) := hsz
  clear hsz
  go_wp2_with (first
    | (refine wpList_store_mid rfl 24 _ _ rfl (n + 2) _ (wl wz).toArray rfl rfl (h22q.out.thereW wz) (HCZ.out wz) (wl_all wz) ?_
       have h24q : Hid (Gd n w (u18q.setCells (n + 2) 0 (wl wz))) := h19q.out.asideL (by omega) 0 (wl wz)
       have h25q : Hid (Bo (u18q.setCells (n + 2) 0 (wl wz)) n (wl c)) := h20q.out.asideL (by omega) 0 (wl wz)
       have h26q : Hid (Bo (u18q.setCells (n + 2) 0 (wl wz)) (n + 1) [.int .i64 o, .int .i64 k, .int .i64 x]) := h21q.out.asideL (by omega) 0 (wl wz)
       have h27q : Hid (Bo (u18q.setCells (n + 2) 0 (wl wz)) (n + 2) (wl wz)) := h22q.out.setW wz
       have h28q : Hid (Bo (u18q.setCells (n + 2) 0 (wl wz)) (n + 3) [.int .i64 0, .int .i64 0]) := h23q.out.asideL (by omega) 0 (wl wz)
       clear h19q h20q h21q h22q h23q
       generalize (u18q.setCells (n + 2) 0 (wl wz)) = u29q at h24q h25q h26q h27q h28q  ⊢)
    | (refine wpList_store_mid rfl 38 _ _ rfl (n + 3) _ #[.int .i64 (0), .int .i64 (0)] rfl rfl h28q.out.there2 HA.out (two_one _ _) ?_
       have h30q : Hid (Gd n w (u29q.setCells (n + 3) 0 [.int .i64 (0), .int .i64 (0)])) := h24q.out.asideL (by omega) 0 [.int .i64 (0), .int .i64 (0)]
       have h31q : Hid (Bo (u29q.setCells (n + 3) 0 [.int .i64 (0), .int .i64 (0)]) n (wl c)) := h25q.out.asideL (by omega) 0 [.int .i64 (0), .int .i64 (0)]
       have h32q : Hid (Bo (u29q.setCells (n + 3) 0 [.int .i64 (0), .int .i64 (0)]) (n + 1) [.int .i64 o, .int .i64 k, .int .i64 x]) := h26q.out.asideL (by omega) 0 [.int .i64 (0), .int .i64 (0)]
       have h33q : Hid (Bo (u29q.setCells (n + 3) 0 [.int .i64 (0), .int .i64 (0)]) (n + 2) (wl wz)) := h27q.out.asideL (by omega) 0 [.int .i64 (0), .int .i64 (0)]
       have h34q : Hid (Bo (u29q.setCells (n + 3) 0 [.int .i64 (0), .int .i64 (0)]) (n + 3) [.int .i64 (0), .int .i64 (0)]) := h28q.out.set2 (.int .i64 (0)) (.int .i64 (0))
       clear h24q h25q h26q h27q h28q
       generalize (u29q.setCells (n + 3) 0 [.int .i64 (0), .int .i64 (0)]) = u35q at h30q h31q h32q h33q h34q  ⊢))
  exact bodyPost_ret (results_row3 Tryd.results6 _ _ (n + 2) (n + 3) (wl wz) [.int .i64 (0), .int .i64 (0)] (.iface 45 (.int .i64 1)) _ _ rfl rfl rfl h33q.out.range HC.out rfl (HCS.out wz) h34q.out.range HDA.out rfl HA.out) rfl ⟨rfl, by first | exact h30q.out.low | exact h30q.out.2⟩
set_option maxHeartbeats 2000000 in
theorem obDo_isnt {kind o k x : Int} {c : Nat → Nat} (hR : Rt o k x) (hO : ¬ isOb kind c) (w : World) :
    Calls Tryd.prog 6 #[.int .i64 kind, .agg (wl c).toArray, .agg #[.int .i64 o, .int .i64 k, .int .i64 x]] w (Refd w) := by
  have HA : Hid ((Tryd.prog.info? 38).map (·.size) = some 2) := answer_sz
  obtain ⟨fs, ha⟩ := answer_st
  have HDA : Hid _ := ha
  clear ha
  obtain ⟨nb, eb, hd⟩ := cells_array
  have HC : Hid _ := hd
  clear hd
  have HCS : Hid _ := cells_size
  have HCZ : Hid _ := cells_size2
  have g0 : Hid (Gd w.heap.size w w) := Gd.refl w
  have OR : Hid (∀ w : World, _) := fun w => opR_yes hR w
  have RR : Hid (∀ w : World, _) := fun w => obRight_is (v := false) ⟨fun h => absurd h (by decide), fun h => absurd h hO⟩ w
  clear hR hO
  have h36q : Hid (Gd w.heap.size w (w.alloc (.cells (wl c).toArray 24))) := g0.out.new (.cells (wl c).toArray 24)
  clear g0
  have h37q : Hid (Bo (w.alloc (.cells (wl c).toArray 24)) w.heap.size (wl c)) := Bo.born w (wl c) 24 (by simp)
  have h38q : Hid (Gd w.heap.size w ((w.alloc (.cells (wl c).toArray 24)).alloc (.cells #[.int .i64 o, .int .i64 k, .int .i64 x] 26))) := h36q.out.new (.cells #[.int .i64 o, .int .i64 k, .int .i64 x] 26)
  have h39q : Hid (Bo ((w.alloc (.cells (wl c).toArray 24)).alloc (.cells #[.int .i64 o, .int .i64 k, .int .i64 x] 26)) w.heap.size (wl c)) := h37q.out.new (.cells #[.int .i64 o, .int .i64 k, .int .i64 x] 26)
  clear h36q h37q
  have h40q : Hid (Bo ((w.alloc (.cells (wl c).toArray 24)).alloc (.cells #[.int .i64 o, .int .i64 k, .int .i64 x] 26)) (w.heap.size + 1) [.int .i64 o, .int .i64 k, .int .i64 x]) := Bo.born (w.alloc (.cells (wl c).toArray 24)) [.int .i64 o, .int .i64 k, .int .i64 x] 26 (by simp)
  have h41q : Hid (Gd w.heap.size w (((w.alloc (.cells (wl c).toArray 24)).alloc (.cells #[.int .i64 o, .int .i64 k, .int .i64 x] 26)).alloc (.cells #[.int .u64 0, .int .u64 0, .int .u64 0, .int .u64 0, .int .u64 0, .int .u64 0, .int .u64 0, .int .u64 0, .int .u64 0, .int .u64 0, .int .u64 0, .int .u64 0, .int .u64 0, .int .u64 0, .int .u64 0, .int .u64 0, .int .u64 0] 24))) := h38q.out.new (.cells #[.int .u64 0, .int .u64 0, .int .u64 0, .int .u64 0, .int .u64 0, .int .u64 0, .int .u64 0, .int .u64 0, .int .u64 0, .int .u64 0, .int .u64 0, .int .u64 0, .int .u64 0, .int .u64 0, .int .u64 0, .int .u64 0, .int .u64 0] 24)
  have h42q : Hid (Bo (((w.alloc (.cells (wl c).toArray 24)).alloc (.cells #[.int .i64 o, .int .i64 k, .int .i64 x] 26)).alloc (.cells #[.int .u64 0, .int .u64 0, .int .u64 0, .int .u64 0, .int .u64 0, .int .u64 0, .int .u64 0, .int .u64 0, .int .u64 0, .int .u64 0, .int .u64 0, .int .u64 0, .int .u64 0, .int .u64 0, .int .u64 0, .int .u64 0, .int .u64 0] 24)) w.heap.size (wl c)) := h39q.out.new (.cells #[.int .u64 0, .int .u64 0, .int .u64 0, .int .u64 0, .int .u64 0, .int .u64 0, .int .u64 0, .int .u64 0, .int .u64 0, .int .u64 0, .int .u64 0, .int .u64 0, .int .u64 0, .int .u64 0, .int .u64 0, .int .u64 0, .int .u64 0] 24)
  have h43q : Hid (Bo (((w.alloc (.cells (wl c).toArray 24)).alloc (.cells #[.int .i64 o, .int .i64 k, .int .i64 x] 26)).alloc (.cells #[.int .u64 0, .int .u64 0, .int .u64 0, .int .u64 0, .int .u64 0, .int .u64 0, .int .u64 0, .int .u64 0, .int .u64 0, .int .u64 0, .int .u64 0, .int .u64 0, .int .u64 0, .int .u64 0, .int .u64 0, .int .u64 0, .int .u64 0] 24)) (w.heap.size + 1) [.int .i64 o, .int .i64 k, .int .i64 x]) := h40q.out.new (.cells #[.int .u64 0, .int .u64 0, .int .u64 0, .int .u64 0, .int .u64 0, .int .u64 0, .int .u64 0, .int .u64 0, .int .u64 0, .int .u64 0, .int .u64 0, .int .u64 0, .int .u64 0, .int .u64 0, .int .u64 0, .int .u64 0, .int .u64 0] 24)
  clear h38q h39q h40q
  have h44q : Hid (Bo (((w.alloc (.cells (wl c).toArray 24)).alloc (.cells #[.int .i64 o, .int .i64 k, .int .i64 x] 26)).alloc (.cells #[.int .u64 0, .int .u64 0, .int .u64 0, .int .u64 0, .int .u64 0, .int .u64 0, .int .u64 0, .int .u64 0, .int .u64 0, .int .u64 0, .int .u64 0, .int .u64 0, .int .u64 0, .int .u64 0, .int .u64 0, .int .u64 0, .int .u64 0] 24)) (w.heap.size + 2) (wl wz)) := Bo.born ((w.alloc (.cells (wl c).toArray 24)).alloc (.cells #[.int .i64 o, .int .i64 k, .int .i64 x] 26)) (wl wz) 24 (by simp)
  have h45q : Hid (Gd w.heap.size w ((((w.alloc (.cells (wl c).toArray 24)).alloc (.cells #[.int .i64 o, .int .i64 k, .int .i64 x] 26)).alloc (.cells #[.int .u64 0, .int .u64 0, .int .u64 0, .int .u64 0, .int .u64 0, .int .u64 0, .int .u64 0, .int .u64 0, .int .u64 0, .int .u64 0, .int .u64 0, .int .u64 0, .int .u64 0, .int .u64 0, .int .u64 0, .int .u64 0, .int .u64 0] 24)).alloc (.cells #[.int .i64 0, .int .i64 0] 38))) := h41q.out.new (.cells #[.int .i64 0, .int .i64 0] 38)
  have h46q : Hid (Bo ((((w.alloc (.cells (wl c).toArray 24)).alloc (.cells #[.int .i64 o, .int .i64 k, .int .i64 x] 26)).alloc (.cells #[.int .u64 0, .int .u64 0, .int .u64 0, .int .u64 0, .int .u64 0, .int .u64 0, .int .u64 0, .int .u64 0, .int .u64 0, .int .u64 0, .int .u64 0, .int .u64 0, .int .u64 0, .int .u64 0, .int .u64 0, .int .u64 0, .int .u64 0] 24)).alloc (.cells #[.int .i64 0, .int .i64 0] 38)) w.heap.size (wl c)) := h42q.out.new (.cells #[.int .i64 0, .int .i64 0] 38)
  have h47q : Hid (Bo ((((w.alloc (.cells (wl c).toArray 24)).alloc (.cells #[.int .i64 o, .int .i64 k, .int .i64 x] 26)).alloc (.cells #[.int .u64 0, .int .u64 0, .int .u64 0, .int .u64 0, .int .u64 0, .int .u64 0, .int .u64 0, .int .u64 0, .int .u64 0, .int .u64 0, .int .u64 0, .int .u64 0, .int .u64 0, .int .u64 0, .int .u64 0, .int .u64 0, .int .u64 0] 24)).alloc (.cells #[.int .i64 0, .int .i64 0] 38)) (w.heap.size + 1) [.int .i64 o, .int .i64 k, .int .i64 x]) := h43q.out.new (.cells #[.int .i64 0, .int .i64 0] 38)
  have h48q : Hid (Bo ((((w.alloc (.cells (wl c).toArray 24)).alloc (.cells #[.int .i64 o, .int .i64 k, .int .i64 x] 26)).alloc (.cells #[.int .u64 0, .int .u64 0, .int .u64 0, .int .u64 0, .int .u64 0, .int .u64 0, .int .u64 0, .int .u64 0, .int .u64 0, .int .u64 0, .int .u64 0, .int .u64 0, .int .u64 0, .int .u64 0, .int .u64 0, .int .u64 0, .int .u64 0] 24)).alloc (.cells #[.int .i64 0, .int .i64 0] 38)) (w.heap.size + 2) (wl wz)) := h44q.out.new (.cells #[.int .i64 0, .int .i64 0] 38)
  clear h41q h42q h43q h44q
  have h49q : Hid (Bo ((((w.alloc (.cells (wl c).toArray 24)).alloc (.cells #[.int .i64 o, .int .i64 k, .int .i64 x] 26)).alloc (.cells #[.int .u64 0, .int .u64 0, .int .u64 0, .int .u64 0, .int .u64 0, .int .u64 0, .int .u64 0, .int .u64 0, .int .u64 0, .int .u64 0, .int .u64 0, .int .u64 0, .int .u64 0, .int .u64 0, .int .u64 0, .int .u64 0, .int .u64 0] 24)).alloc (.cells #[.int .i64 0, .int .i64 0] 38)) (w.heap.size + 3) [.int .i64 0, .int .i64 0]) := Bo.born (((w.alloc (.cells (wl c).toArray 24)).alloc (.cells #[.int .i64 o, .int .i64 k, .int .i64 x] 26)).alloc (.cells #[.int .u64 0, .int .u64 0, .int .u64 0, .int .u64 0, .int .u64 0, .int .u64 0, .int .u64 0, .int .u64 0, .int .u64 0, .int .u64 0, .int .u64 0, .int .u64 0, .int .u64 0, .int .u64 0, .int .u64 0, .int .u64 0, .int .u64 0] 24)) [.int .i64 0, .int .i64 0] 38 (by simp)
  have c50q := h47q.out.at 0 rfl
  have c51q := h47q.out.at 1 rfl
  have c52q := h47q.out.at 2 rfl
  go_enter Tryd.func6, Tryd.ntmps6
  go_wp2_with fail
  refine (OR.out _).mono ?_
  rintro e u53q ⟨rfl, hb⟩
  have h54q : Hid (Gd w.heap.size w u53q) := h45q.out.later hb
  have h55q : Hid (Bo u53q w.heap.size (wl c)) := h46q.out.later hb
  have h56q : Hid (Bo u53q (w.heap.size + 1) [.int .i64 o, .int .i64 k, .int .i64 x]) := h47q.out.later hb
  have h57q : Hid (Bo u53q (w.heap.size + 2) (wl wz)) := h48q.out.later hb
  have h58q : Hid (Bo u53q (w.heap.size + 3) [.int .i64 0, .int .i64 0]) := h49q.out.later hb
  clear h45q h46q h47q h48q h49q
  clear hb
  generalize hsz : w.heap.size = n at h54q h55q h56q h57q h58q  ⊢
  have HSZ : Hid (w.heap.size = n) := hsz
  clear hsz
  go_wp2_with (first
    | (refine wpList_load_wanted (by rfl) 24 _ rfl n _ rfl (wl c) _ h55q.out.range HC.out rfl (HCS.out c) ?_))
  refine (RR.out _).mono ?_
  rintro e u59q ⟨rfl, hb⟩
  have h60q : Hid (Gd n w u59q) := h54q.out.later hb
  have h61q : Hid (Bo u59q n (wl c)) := h55q.out.later hb
  have h62q : Hid (Bo u59q (n + 1) [.int .i64 o, .int .i64 k, .int .i64 x]) := h56q.out.later hb
  have h63q : Hid (Bo u59q (n + 2) (wl wz)) := h57q.out.later hb
  have h64q : Hid (Bo u59q (n + 3) [.int .i64 0, .int .i64 0]) := h58q.out.later hb
  clear h54q h55q h56q h57q h58q
  clear hb
  go_wp2_with (first
    | (refine wpList_store_mid rfl 24 _ _ rfl (n + 2) _ (wl wz).toArray rfl rfl (h63q.out.thereW wz) (HCZ.out wz) (wl_all wz) ?_
       have h65q : Hid (Gd n w (u59q.setCells (n + 2) 0 (wl wz))) := h60q.out.asideL (by omega) 0 (wl wz)
       have h66q : Hid (Bo (u59q.setCells (n + 2) 0 (wl wz)) n (wl c)) := h61q.out.asideL (by omega) 0 (wl wz)
       have h67q : Hid (Bo (u59q.setCells (n + 2) 0 (wl wz)) (n + 1) [.int .i64 o, .int .i64 k, .int .i64 x]) := h62q.out.asideL (by omega) 0 (wl wz)
       have h68q : Hid (Bo (u59q.setCells (n + 2) 0 (wl wz)) (n + 2) (wl wz)) := h63q.out.setW wz
       have h69q : Hid (Bo (u59q.setCells (n + 2) 0 (wl wz)) (n + 3) [.int .i64 0, .int .i64 0]) := h64q.out.asideL (by omega) 0 (wl wz)
       clear h60q h61q h62q h63q h64q
       generalize (u59q.setCells (n + 2) 0 (wl wz)) = u70q at h65q h66q h67q h68q h69q  ⊢)
    | (refine wpList_store_mid rfl 38 _ _ rfl (n + 3) _ #[.int .i64 (0), .int .i64 (0)] rfl rfl h69q.out.there2 HA.out (two_one _ _) ?_
       have h71q : Hid (Gd n w (u70q.setCells (n + 3) 0 [.int .i64 (0), .int .i64 (0)])) := h65q.out.asideL (by omega) 0 [.int .i64 (0), .int .i64 (0)]
       have h72q : Hid (Bo (u70q.setCells (n + 3) 0 [.int .i64 (0), .int .i64 (0)]) n (wl c)) := h66q.out.asideL (by omega) 0 [.int .i64 (0), .int .i64 (0)]
       have h73q : Hid (Bo (u70q.setCells (n + 3) 0 [.int .i64 (0), .int .i64 (0)]) (n + 1) [.int .i64 o, .int .i64 k, .int .i64 x]) := h67q.out.asideL (by omega) 0 [.int .i64 (0), .int .i64 (0)]
       have h74q : Hid (Bo (u70q.setCells (n + 3) 0 [.int .i64 (0), .int .i64 (0)]) (n + 2) (wl wz)) := h68q.out.asideL (by omega) 0 [.int .i64 (0), .int .i64 (0)]
       have h75q : Hid (Bo (u70q.setCells (n + 3) 0 [.int .i64 (0), .int .i64 (0)]) (n + 3) [.int .i64 (0), .int .i64 (0)]) := h69q.out.set2 (.int .i64 (0)) (.int .i64 (0))
       clear h65q h66q h67q h68q h69q
       generalize (u70q.setCells (n + 3) 0 [.int .i64 (0), .int .i64 (0)]) = u76q at h71q h72q h73q h74q h75q  ⊢))
  exact bodyPost_ret (results_row3 Tryd.results6 _ _ (n + 2) (n + 3) (wl wz) [.int .i64 (0), .int .i64 (0)] (.iface 45 (.int .i64 1)) _ _ rfl rfl rfl h74q.out.range HC.out rfl (HCS.out wz) h75q.out.range HDA.out rfl HA.out) rfl ⟨rfl, by first | exact h71q.out.low | exact h71q.out.2⟩
end Go.Proofs.YtbmgjpdfmgcigabDoor.Tab
