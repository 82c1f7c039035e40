/- ObjectSizes is proved: for every number of a kind and every seventeen words the call returns true (how many things there are in an object, and what is refused, is the document's); the library's handle of the type error stands as the program's text lays it. -/
import Derived.Test.YtbmgjpdfmgcigabDoorRows
import Derived.Test.YtbmgjpdfmgcigabDoorTk
import Derived.Test.YtbmgjpdfmgcigabDoorObQ
import Derived.Test.YtbmgjpdfmgcigabDoorTho
import Derived.Test.YtbmgjpdfmgcigabDoorCe
import Derived.Test.YtbmgjpdfmgcigabDoorErrs
import Derived.Test.YtbmgjpdfmgcigabDoorLaidHandle
import Derived.Test.YtbmgjpdfmgcigabDoorArgC
import Derived.Test.YtbmgjpdfmgcigabDoorCards
import Derived.SevenTiedAt

namespace Go.Proofs.YtbmgjpdfmgcigabDoor.Tab.objectSizes
set_option maxRecDepth 20000
open Go.ChangeShapes Go.WideShapes Go.ChangeAt Go.RowKit
set_option linter.unusedVariables false

set_option maxHeartbeats 4000000 in
set_option maxRecDepth 20000 in
theorem walk (kind : Int) (c : Nat → Nat) (w0 : (Lit.int .i64 kind).wf = true) (w : World) (hT : HandleAt w) :
    Calls Tryd.prog 4 #[.int .i64 kind, .agg (wl c).toArray] w fun e w' => e = .returned (.bool true) ∧ Below w.heap.size w w' := by
  have HA : Hid ((Tryd.prog.info? 38).map (·.size) = some 2) := answer_size
  obtain ⟨fs, ha⟩ := answer_struct
  have HDA : Hid _ := ha
  clear ha
  obtain ⟨nb, eb, hd⟩ := cells_array
  have HC : Hid _ := hd
  clear hd
  have HCS : Hid _ := cells_size
  have HCZ : Hid _ := cells_size2
  obtain ⟨fs, hd⟩ := thing_struct
  have HTD : Hid _ := hd
  clear hd
  have HTS : Hid _ := thing_size
  have HTZ : Hid _ := thing_size2
  have HT : Hid (HandleAt w) := hT
  clear hT w0
  have g0 : Hid (Gd w.heap.size w w) := Gd.refl w
  have h1q : Hid (Gd w.heap.size w (w.alloc (.cells (wl c).toArray 24))) := g0.out.new (.cells (wl c).toArray 24)
  clear g0
  have h2q : Hid (Bo (w.alloc (.cells (wl c).toArray 24)) w.heap.size (wl c)) := Bo.born w (wl c) 24 (by simp)
  by_cases hO : isTh kind c
  · have TO : Hid (∀ {bc oc kc : Nat} {w : World} (hc : Wf w bc oc c), _) := fun {bc oc kc w} hc => ThingOf_is (b := true) (bc := bc) (oc := oc) (kc := kc) ⟨fun _ => hO, fun _ => rfl⟩ hc
    have SZ : Hid (∀ w, _) := obSize_is (isTh_ob.1 hO)
    have DO : Hid (∀ {v : Value} {t : Tb} {n : Int} {w : World} (h : Th 0 w kind c v t n), _) := fun {v t n w} h => TDo_is (o := 6) (k := 0) (x := 0) hO ⟨by decide, by decide, by decide, by decide, by decide, by decide⟩ h
    have CT : Hid _ := (odo_facts (kind := kind) (c := c) (o := 6) (k := 0) (x := 0) (isTh_ob.1 hO) (by decide) (by decide) (by decide) (by decide) (by decide) (by decide)).count rfl
    have K6 : kind ≤ 6 := hO.kind.2
    clear hO
    go_enter Tryd.func4, Tryd.ntmps4
    go_wp2_with fail
    generalize (w.alloc (.cells (wl c).toArray 24)) = W at h1q h2q  ⊢
    generalize hsz : w.heap.size = n at h1q h2q  ⊢
    have HSZ : Hid (w.heap.size = n) := hsz
    clear hsz
    refine (TO.out (Wf.of_bo h2q.out)).mono ?_
    rintro e u3q ⟨v, t, x, hv, rfl, hth, hb⟩
    have h4q : Hid (Gd n w u3q) := h1q.out.later hb
    have h5q : Hid (Bo u3q n (wl c)) := h2q.out.later hb
    clear h1q h2q
    have h6q : Hid (Tk u3q.heap.size u3q kind c v t x) := ((hth (by first | rfl | trivial)).any).tk
    clear hb
    have HV : Hid _ := hv
    clear hv hth
    have l7q : n ≤ u3q.heap.size := h4q.out.le
    have l8q : n < u3q.heap.size := h5q.out.lt
    have h9q : Hid (Gd n w (u3q.alloc (.cells #[.int .i64 0, .slice none 0 0, .int .i64 0, .int .i64 0, .int .i64 0, .int .i64 0, .int .i64 0, .int .i64 0, .int .i64 0, .int .i64 0, .int .i64 0, .int .i64 0, .int .i64 0, .int .i64 0, .int .i64 0, .int .i64 0, .int .i64 0, .int .i64 0, .int .i64 0] 33))) := h4q.out.new (.cells #[.int .i64 0, .slice none 0 0, .int .i64 0, .int .i64 0, .int .i64 0, .int .i64 0, .int .i64 0, .int .i64 0, .int .i64 0, .int .i64 0, .int .i64 0, .int .i64 0, .int .i64 0, .int .i64 0, .int .i64 0, .int .i64 0, .int .i64 0, .int .i64 0, .int .i64 0] 33)
    have h10q : Hid (Bo (u3q.alloc (.cells #[.int .i64 0, .slice none 0 0, .int .i64 0, .int .i64 0, .int .i64 0, .int .i64 0, .int .i64 0, .int .i64 0, .int .i64 0, .int .i64 0, .int .i64 0, .int .i64 0, .int .i64 0, .int .i64 0, .int .i64 0, .int .i64 0, .int .i64 0, .int .i64 0, .int .i64 0] 33)) n (wl c)) := h5q.out.new (.cells #[.int .i64 0, .slice none 0 0, .int .i64 0, .int .i64 0, .int .i64 0, .int .i64 0, .int .i64 0, .int .i64 0, .int .i64 0, .int .i64 0, .int .i64 0, .int .i64 0, .int .i64 0, .int .i64 0, .int .i64 0, .int .i64 0, .int .i64 0, .int .i64 0, .int .i64 0] 33)
    have h11q : Hid (Tk u3q.heap.size (u3q.alloc (.cells #[.int .i64 0, .slice none 0 0, .int .i64 0, .int .i64 0, .int .i64 0, .int .i64 0, .int .i64 0, .int .i64 0, .int .i64 0, .int .i64 0, .int .i64 0, .int .i64 0, .int .i64 0, .int .i64 0, .int .i64 0, .int .i64 0, .int .i64 0, .int .i64 0, .int .i64 0] 33)) kind c v t x) := h6q.out.new (.cells #[.int .i64 0, .slice none 0 0, .int .i64 0, .int .i64 0, .int .i64 0, .int .i64 0, .int .i64 0, .int .i64 0, .int .i64 0, .int .i64 0, .int .i64 0, .int .i64 0, .int .i64 0, .int .i64 0, .int .i64 0, .int .i64 0, .int .i64 0, .int .i64 0, .int .i64 0] 33)
    clear h4q h5q h6q
    have h12q : Hid (Bo (u3q.alloc (.cells #[.int .i64 0, .slice none 0 0, .int .i64 0, .int .i64 0, .int .i64 0, .int .i64 0, .int .i64 0, .int .i64 0, .int .i64 0, .int .i64 0, .int .i64 0, .int .i64 0, .int .i64 0, .int .i64 0, .int .i64 0, .int .i64 0, .int .i64 0, .int .i64 0, .int .i64 0] 33)) u3q.heap.size (tg 0 (.slice none 0 0) Tb.zero 0)) := Bo.bornTh u3q 0 33 (by simp)
    go_wp2_with (first
      | (refine wpList_store_mid rfl 33 _ _ rfl u3q.heap.size _ (tg kind v t x).toArray rfl rfl (h12q.out.thereT kind v t x) (HTZ.out _ _ _ _) (tg_all _ HV.out _ _) ?_
         have h13q : Hid (Gd n w ((u3q.alloc (.cells #[.int .i64 0, .slice none 0 0, .int .i64 0, .int .i64 0, .int .i64 0, .int .i64 0, .int .i64 0, .int .i64 0, .int .i64 0, .int .i64 0, .int .i64 0, .int .i64 0, .int .i64 0, .int .i64 0, .int .i64 0, .int .i64 0, .int .i64 0, .int .i64 0, .int .i64 0] 33)).setCells u3q.heap.size 0 (tg kind v t x))) := h9q.out.asideL (by omega) 0 (tg kind v t x)
         have h14q : Hid (Bo ((u3q.alloc (.cells #[.int .i64 0, .slice none 0 0, .int .i64 0, .int .i64 0, .int .i64 0, .int .i64 0, .int .i64 0, .int .i64 0, .int .i64 0, .int .i64 0, .int .i64 0, .int .i64 0, .int .i64 0, .int .i64 0, .int .i64 0, .int .i64 0, .int .i64 0, .int .i64 0, .int .i64 0] 33)).setCells u3q.heap.size 0 (tg kind v t x)) n (wl c)) := h10q.out.asideL (by omega) 0 (tg kind v t x)
         have h15q : Hid (Tk u3q.heap.size ((u3q.alloc (.cells #[.int .i64 0, .slice none 0 0, .int .i64 0, .int .i64 0, .int .i64 0, .int .i64 0, .int .i64 0, .int .i64 0, .int .i64 0, .int .i64 0, .int .i64 0, .int .i64 0, .int .i64 0, .int .i64 0, .int .i64 0, .int .i64 0, .int .i64 0, .int .i64 0, .int .i64 0] 33)).setCells u3q.heap.size 0 (tg kind v t x)) kind c v t x) := h11q.out.asideL (by omega) 0 (tg kind v t x)
         have h16q : Hid (Bo ((u3q.alloc (.cells #[.int .i64 0, .slice none 0 0, .int .i64 0, .int .i64 0, .int .i64 0, .int .i64 0, .int .i64 0, .int .i64 0, .int .i64 0, .int .i64 0, .int .i64 0, .int .i64 0, .int .i64 0, .int .i64 0, .int .i64 0, .int .i64 0, .int .i64 0, .int .i64 0, .int .i64 0] 33)).setCells u3q.heap.size 0 (tg kind v t x)) u3q.heap.size (tg kind v t x)) := h12q.out.setT kind v t x
         clear h9q h10q h11q h12q
         generalize ((u3q.alloc (.cells #[.int .i64 0, .slice none 0 0, .int .i64 0, .int .i64 0, .int .i64 0, .int .i64 0, .int .i64 0, .int .i64 0, .int .i64 0, .int .i64 0, .int .i64 0, .int .i64 0, .int .i64 0, .int .i64 0, .int .i64 0, .int .i64 0, .int .i64 0, .int .i64 0, .int .i64 0] 33)).setCells u3q.heap.size 0 (tg kind v t x)) = u17q at h13q h14q h15q h16q  ⊢)
      | (refine wpList_load_mid rfl 24 _ rfl n _ rfl (wl c) _ h14q.out.range HC.out rfl (HCS.out c) ?_))
    refine (SZ.out _).mono ?_
    rintro e u18q ⟨rfl, hb⟩
    have h19q : Hid (Gd n w u18q) := h13q.out.later hb
    have h20q : Hid (Bo u18q n (wl c)) := h14q.out.later hb
    have h21q : Hid (Tk u3q.heap.size u18q kind c v t x) := h15q.out.later hb
    have h22q : Hid (Bo u18q u3q.heap.size (tg kind v t x)) := h16q.out.later hb
    clear h13q h14q h15q h16q
    clear hb
    go_wp2_with (first
      | (refine wpList_load_mid rfl 33 _ rfl u3q.heap.size _ rfl (tg kind v t x) _ h22q.out.range HTD.out rfl (HTS.out _ _ _ _) ?_))
    refine (DO.out h21q.out.th).mono ?_
    rintro e u23q ⟨v2, t2, x2, rfl, hth2, hb⟩
    have h24q : Hid (Gd n w u23q) := h19q.out.later hb
    have h25q : Hid (Bo u23q n (wl c)) := h20q.out.later hb
    have h26q : Hid (Tk u3q.heap.size u23q kind c v t x) := h21q.out.later hb
    have h27q : Hid (Bo u23q u3q.heap.size (tg kind v t x)) := h22q.out.later hb
    clear h19q h20q h21q h22q
    have h28q : Hid (Tk u23q.heap.size u23q kind (odo kind c 6 0 0).1 v2 t2 x2) := hth2.tk
    clear hb
    have HV2 : Hid (v2.oneCell' = true) := h28q.out.one K6
    clear hth2
    clear h26q
    rw [CT.out.1, CT.out.2]
    have l29q : n ≤ u23q.heap.size := h24q.out.le
    have l30q : n < u23q.heap.size := h25q.out.lt
    have l31q : u3q.heap.size < u23q.heap.size := h27q.out.lt
    have h32q : Hid (Gd n w (u23q.alloc (.cells #[.int .i64 0, .slice none 0 0, .int .i64 0, .int .i64 0, .int .i64 0, .int .i64 0, .int .i64 0, .int .i64 0, .int .i64 0, .int .i64 0, .int .i64 0, .int .i64 0, .int .i64 0, .int .i64 0, .int .i64 0, .int .i64 0, .int .i64 0, .int .i64 0, .int .i64 0] 33))) := h24q.out.new (.cells #[.int .i64 0, .slice none 0 0, .int .i64 0, .int .i64 0, .int .i64 0, .int .i64 0, .int .i64 0, .int .i64 0, .int .i64 0, .int .i64 0, .int .i64 0, .int .i64 0, .int .i64 0, .int .i64 0, .int .i64 0, .int .i64 0, .int .i64 0, .int .i64 0, .int .i64 0] 33)
    have h33q : Hid (Bo (u23q.alloc (.cells #[.int .i64 0, .slice none 0 0, .int .i64 0, .int .i64 0, .int .i64 0, .int .i64 0, .int .i64 0, .int .i64 0, .int .i64 0, .int .i64 0, .int .i64 0, .int .i64 0, .int .i64 0, .int .i64 0, .int .i64 0, .int .i64 0, .int .i64 0, .int .i64 0, .int .i64 0] 33)) n (wl c)) := h25q.out.new (.cells #[.int .i64 0, .slice none 0 0, .int .i64 0, .int .i64 0, .int .i64 0, .int .i64 0, .int .i64 0, .int .i64 0, .int .i64 0, .int .i64 0, .int .i64 0, .int .i64 0, .int .i64 0, .int .i64 0, .int .i64 0, .int .i64 0, .int .i64 0, .int .i64 0, .int .i64 0] 33)
    have h34q : Hid (Bo (u23q.alloc (.cells #[.int .i64 0, .slice none 0 0, .int .i64 0, .int .i64 0, .int .i64 0, .int .i64 0, .int .i64 0, .int .i64 0, .int .i64 0, .int .i64 0, .int .i64 0, .int .i64 0, .int .i64 0, .int .i64 0, .int .i64 0, .int .i64 0, .int .i64 0, .int .i64 0, .int .i64 0] 33)) u3q.heap.size (tg kind v t x)) := h27q.out.new (.cells #[.int .i64 0, .slice none 0 0, .int .i64 0, .int .i64 0, .int .i64 0, .int .i64 0, .int .i64 0, .int .i64 0, .int .i64 0, .int .i64 0, .int .i64 0, .int .i64 0, .int .i64 0, .int .i64 0, .int .i64 0, .int .i64 0, .int .i64 0, .int .i64 0, .int .i64 0] 33)
    have h35q : Hid (Tk u23q.heap.size (u23q.alloc (.cells #[.int .i64 0, .slice none 0 0, .int .i64 0, .int .i64 0, .int .i64 0, .int .i64 0, .int .i64 0, .int .i64 0, .int .i64 0, .int .i64 0, .int .i64 0, .int .i64 0, .int .i64 0, .int .i64 0, .int .i64 0, .int .i64 0, .int .i64 0, .int .i64 0, .int .i64 0] 33)) kind (odo kind c 6 0 0).1 v2 t2 x2) := h28q.out.new (.cells #[.int .i64 0, .slice none 0 0, .int .i64 0, .int .i64 0, .int .i64 0, .int .i64 0, .int .i64 0, .int .i64 0, .int .i64 0, .int .i64 0, .int .i64 0, .int .i64 0, .int .i64 0, .int .i64 0, .int .i64 0, .int .i64 0, .int .i64 0, .int .i64 0, .int .i64 0] 33)
    clear h24q h25q h27q h28q
    have h36q : Hid (Bo (u23q.alloc (.cells #[.int .i64 0, .slice none 0 0, .int .i64 0, .int .i64 0, .int .i64 0, .int .i64 0, .int .i64 0, .int .i64 0, .int .i64 0, .int .i64 0, .int .i64 0, .int .i64 0, .int .i64 0, .int .i64 0, .int .i64 0, .int .i64 0, .int .i64 0, .int .i64 0, .int .i64 0] 33)) u23q.heap.size (tg 0 (.slice none 0 0) Tb.zero 0)) := Bo.bornTh u23q 0 33 (by simp)
    have h37q : Hid (Gd n w ((u23q.alloc (.cells #[.int .i64 0, .slice none 0 0, .int .i64 0, .int .i64 0, .int .i64 0, .int .i64 0, .int .i64 0, .int .i64 0, .int .i64 0, .int .i64 0, .int .i64 0, .int .i64 0, .int .i64 0, .int .i64 0, .int .i64 0, .int .i64 0, .int .i64 0, .int .i64 0, .int .i64 0] 33)).alloc (.cells #[.int .i64 0, .int .i64 0] 38))) := h32q.out.new (.cells #[.int .i64 0, .int .i64 0] 38)
    have h38q : Hid (Bo ((u23q.alloc (.cells #[.int .i64 0, .slice none 0 0, .int .i64 0, .int .i64 0, .int .i64 0, .int .i64 0, .int .i64 0, .int .i64 0, .int .i64 0, .int .i64 0, .int .i64 0, .int .i64 0, .int .i64 0, .int .i64 0, .int .i64 0, .int .i64 0, .int .i64 0, .int .i64 0, .int .i64 0] 33)).alloc (.cells #[.int .i64 0, .int .i64 0] 38)) n (wl c)) := h33q.out.new (.cells #[.int .i64 0, .int .i64 0] 38)
    have h39q : Hid (Bo ((u23q.alloc (.cells #[.int .i64 0, .slice none 0 0, .int .i64 0, .int .i64 0, .int .i64 0, .int .i64 0, .int .i64 0, .int .i64 0, .int .i64 0, .int .i64 0, .int .i64 0, .int .i64 0, .int .i64 0, .int .i64 0, .int .i64 0, .int .i64 0, .int .i64 0, .int .i64 0, .int .i64 0] 33)).alloc (.cells #[.int .i64 0, .int .i64 0] 38)) u3q.heap.size (tg kind v t x)) := h34q.out.new (.cells #[.int .i64 0, .int .i64 0] 38)
    have h40q : Hid (Tk u23q.heap.size ((u23q.alloc (.cells #[.int .i64 0, .slice none 0 0, .int .i64 0, .int .i64 0, .int .i64 0, .int .i64 0, .int .i64 0, .int .i64 0, .int .i64 0, .int .i64 0, .int .i64 0, .int .i64 0, .int .i64 0, .int .i64 0, .int .i64 0, .int .i64 0, .int .i64 0, .int .i64 0, .int .i64 0] 33)).alloc (.cells #[.int .i64 0, .int .i64 0] 38)) kind (odo kind c 6 0 0).1 v2 t2 x2) := h35q.out.new (.cells #[.int .i64 0, .int .i64 0] 38)
    have h41q : Hid (Bo ((u23q.alloc (.cells #[.int .i64 0, .slice none 0 0, .int .i64 0, .int .i64 0, .int .i64 0, .int .i64 0, .int .i64 0, .int .i64 0, .int .i64 0, .int .i64 0, .int .i64 0, .int .i64 0, .int .i64 0, .int .i64 0, .int .i64 0, .int .i64 0, .int .i64 0, .int .i64 0, .int .i64 0] 33)).alloc (.cells #[.int .i64 0, .int .i64 0] 38)) u23q.heap.size (tg 0 (.slice none 0 0) Tb.zero 0)) := h36q.out.new (.cells #[.int .i64 0, .int .i64 0] 38)
    clear h32q h33q h34q h35q h36q
    have h42q : Hid (Bo ((u23q.alloc (.cells #[.int .i64 0, .slice none 0 0, .int .i64 0, .int .i64 0, .int .i64 0, .int .i64 0, .int .i64 0, .int .i64 0, .int .i64 0, .int .i64 0, .int .i64 0, .int .i64 0, .int .i64 0, .int .i64 0, .int .i64 0, .int .i64 0, .int .i64 0, .int .i64 0, .int .i64 0] 33)).alloc (.cells #[.int .i64 0, .int .i64 0] 38)) (u23q.heap.size + 1) [.int .i64 0, .int .i64 0]) := Bo.born (u23q.alloc (.cells #[.int .i64 0, .slice none 0 0, .int .i64 0, .int .i64 0, .int .i64 0, .int .i64 0, .int .i64 0, .int .i64 0, .int .i64 0, .int .i64 0, .int .i64 0, .int .i64 0, .int .i64 0, .int .i64 0, .int .i64 0, .int .i64 0, .int .i64 0, .int .i64 0, .int .i64 0] 33)) [.int .i64 0, .int .i64 0] 38 (by simp)
    go_wp2_with (first
      | (refine wpList_store_mid rfl 33 _ _ rfl u23q.heap.size _ (tg kind v2 t2 x2).toArray rfl rfl (h41q.out.thereT kind v2 t2 x2) (HTZ.out _ _ _ _) (tg_all _ HV2.out _ _) ?_
         have h43q : Hid (Gd n w (((u23q.alloc (.cells #[.int .i64 0, .slice none 0 0, .int .i64 0, .int .i64 0, .int .i64 0, .int .i64 0, .int .i64 0, .int .i64 0, .int .i64 0, .int .i64 0, .int .i64 0, .int .i64 0, .int .i64 0, .int .i64 0, .int .i64 0, .int .i64 0, .int .i64 0, .int .i64 0, .int .i64 0] 33)).alloc (.cells #[.int .i64 0, .int .i64 0] 38)).setCells u23q.heap.size 0 (tg kind v2 t2 x2))) := h37q.out.asideL (by omega) 0 (tg kind v2 t2 x2)
         have h44q : Hid (Bo (((u23q.alloc (.cells #[.int .i64 0, .slice none 0 0, .int .i64 0, .int .i64 0, .int .i64 0, .int .i64 0, .int .i64 0, .int .i64 0, .int .i64 0, .int .i64 0, .int .i64 0, .int .i64 0, .int .i64 0, .int .i64 0, .int .i64 0, .int .i64 0, .int .i64 0, .int .i64 0, .int .i64 0] 33)).alloc (.cells #[.int .i64 0, .int .i64 0] 38)).setCells u23q.heap.size 0 (tg kind v2 t2 x2)) n (wl c)) := h38q.out.asideL (by omega) 0 (tg kind v2 t2 x2)
         have h45q : Hid (Bo (((u23q.alloc (.cells #[.int .i64 0, .slice none 0 0, .int .i64 0, .int .i64 0, .int .i64 0, .int .i64 0, .int .i64 0, .int .i64 0, .int .i64 0, .int .i64 0, .int .i64 0, .int .i64 0, .int .i64 0, .int .i64 0, .int .i64 0, .int .i64 0, .int .i64 0, .int .i64 0, .int .i64 0] 33)).alloc (.cells #[.int .i64 0, .int .i64 0] 38)).setCells u23q.heap.size 0 (tg kind v2 t2 x2)) u3q.heap.size (tg kind v t x)) := h39q.out.asideL (by omega) 0 (tg kind v2 t2 x2)
         have h46q : Hid (Tk u23q.heap.size (((u23q.alloc (.cells #[.int .i64 0, .slice none 0 0, .int .i64 0, .int .i64 0, .int .i64 0, .int .i64 0, .int .i64 0, .int .i64 0, .int .i64 0, .int .i64 0, .int .i64 0, .int .i64 0, .int .i64 0, .int .i64 0, .int .i64 0, .int .i64 0, .int .i64 0, .int .i64 0, .int .i64 0] 33)).alloc (.cells #[.int .i64 0, .int .i64 0] 38)).setCells u23q.heap.size 0 (tg kind v2 t2 x2)) kind (odo kind c 6 0 0).1 v2 t2 x2) := h40q.out.asideL (by omega) 0 (tg kind v2 t2 x2)
         have h47q : Hid (Bo (((u23q.alloc (.cells #[.int .i64 0, .slice none 0 0, .int .i64 0, .int .i64 0, .int .i64 0, .int .i64 0, .int .i64 0, .int .i64 0, .int .i64 0, .int .i64 0, .int .i64 0, .int .i64 0, .int .i64 0, .int .i64 0, .int .i64 0, .int .i64 0, .int .i64 0, .int .i64 0, .int .i64 0] 33)).alloc (.cells #[.int .i64 0, .int .i64 0] 38)).setCells u23q.heap.size 0 (tg kind v2 t2 x2)) u23q.heap.size (tg kind v2 t2 x2)) := h41q.out.setT kind v2 t2 x2
         have h48q : Hid (Bo (((u23q.alloc (.cells #[.int .i64 0, .slice none 0 0, .int .i64 0, .int .i64 0, .int .i64 0, .int .i64 0, .int .i64 0, .int .i64 0, .int .i64 0, .int .i64 0, .int .i64 0, .int .i64 0, .int .i64 0, .int .i64 0, .int .i64 0, .int .i64 0, .int .i64 0, .int .i64 0, .int .i64 0] 33)).alloc (.cells #[.int .i64 0, .int .i64 0] 38)).setCells u23q.heap.size 0 (tg kind v2 t2 x2)) (u23q.heap.size + 1) [.int .i64 0, .int .i64 0]) := h42q.out.asideL (by omega) 0 (tg kind v2 t2 x2)
         clear h37q h38q h39q h40q h41q h42q
         generalize (((u23q.alloc (.cells #[.int .i64 0, .slice none 0 0, .int .i64 0, .int .i64 0, .int .i64 0, .int .i64 0, .int .i64 0, .int .i64 0, .int .i64 0, .int .i64 0, .int .i64 0, .int .i64 0, .int .i64 0, .int .i64 0, .int .i64 0, .int .i64 0, .int .i64 0, .int .i64 0, .int .i64 0] 33)).alloc (.cells #[.int .i64 0, .int .i64 0] 38)).setCells u23q.heap.size 0 (tg kind v2 t2 x2)) = u49q at h43q h44q h45q h46q h47q h48q  ⊢)
      | (refine wpList_store_mid rfl 38 _ _ rfl (u23q.heap.size + 1) _ #[.int .i64 (1), .int .i64 (osz kind c)] rfl rfl h48q.out.there2 HA.out (two_one _ _) ?_
         have h50q : Hid (Gd n w (u49q.setCells (u23q.heap.size + 1) 0 [.int .i64 (1), .int .i64 (osz kind c)])) := h43q.out.asideL (by omega) 0 [.int .i64 (1), .int .i64 (osz kind c)]
         have h51q : Hid (Bo (u49q.setCells (u23q.heap.size + 1) 0 [.int .i64 (1), .int .i64 (osz kind c)]) n (wl c)) := h44q.out.asideL (by omega) 0 [.int .i64 (1), .int .i64 (osz kind c)]
         have h52q : Hid (Bo (u49q.setCells (u23q.heap.size + 1) 0 [.int .i64 (1), .int .i64 (osz kind c)]) u3q.heap.size (tg kind v t x)) := h45q.out.asideL (by omega) 0 [.int .i64 (1), .int .i64 (osz kind c)]
         have h53q : Hid (Tk u23q.heap.size (u49q.setCells (u23q.heap.size + 1) 0 [.int .i64 (1), .int .i64 (osz kind c)]) kind (odo kind c 6 0 0).1 v2 t2 x2) := h46q.out.asideL (by omega) 0 [.int .i64 (1), .int .i64 (osz kind c)]
         have h54q : Hid (Bo (u49q.setCells (u23q.heap.size + 1) 0 [.int .i64 (1), .int .i64 (osz kind c)]) u23q.heap.size (tg kind v2 t2 x2)) := h47q.out.asideL (by omega) 0 [.int .i64 (1), .int .i64 (osz kind c)]
         have h55q : Hid (Bo (u49q.setCells (u23q.heap.size + 1) 0 [.int .i64 (1), .int .i64 (osz kind c)]) (u23q.heap.size + 1) [.int .i64 (1), .int .i64 (osz kind c)]) := h48q.out.set2 (.int .i64 (1)) (.int .i64 (osz kind c))
         clear h43q h44q h45q h46q h47q h48q
         generalize (u49q.setCells (u23q.heap.size + 1) 0 [.int .i64 (1), .int .i64 (osz kind c)]) = u56q at h50q h51q h52q h53q h54q h55q  ⊢
         have c57q := h55q.out.at 1 rfl))
    go_ret
    exact ⟨ret_bool (by simp), h50q.out.2⟩
  · have TO : Hid (∀ {bc oc kc : Nat} {w : World} (hc : Wf w bc oc c), _) := fun {bc oc kc w} hc => ThingOf_is (b := false) (bc := bc) (oc := oc) (kc := kc) ⟨fun h => (by cases h), fun h => absurd h hO⟩ hc
    have SZ : Hid (∀ w, _) := obSize_no (fun h => hO (isTh_ob.2 h))
    clear hO
    go_enter Tryd.func4, Tryd.ntmps4
    go_wp2_with fail
    generalize (w.alloc (.cells (wl c).toArray 24)) = W at h1q h2q  ⊢
    generalize hsz : w.heap.size = n at h1q h2q  ⊢
    have HSZ : Hid (w.heap.size = n) := hsz
    clear hsz
    refine (TO.out (Wf.of_bo h2q.out)).mono ?_
    rintro e u58q ⟨v, t, x, hv, rfl, hth, hb⟩
    have h59q : Hid (Gd n w u58q) := h1q.out.later hb
    have h60q : Hid (Bo u58q n (wl c)) := h2q.out.later hb
    clear h1q h2q
    clear hb
    have HV : Hid _ := hv
    clear hv hth
    have l61q : n ≤ u58q.heap.size := h59q.out.le
    have l62q : n < u58q.heap.size := h60q.out.lt
    have h63q : Hid (Gd n w (u58q.alloc (.cells #[.int .i64 0, .slice none 0 0, .int .i64 0, .int .i64 0, .int .i64 0, .int .i64 0, .int .i64 0, .int .i64 0, .int .i64 0, .int .i64 0, .int .i64 0, .int .i64 0, .int .i64 0, .int .i64 0, .int .i64 0, .int .i64 0, .int .i64 0, .int .i64 0, .int .i64 0] 33))) := h59q.out.new (.cells #[.int .i64 0, .slice none 0 0, .int .i64 0, .int .i64 0, .int .i64 0, .int .i64 0, .int .i64 0, .int .i64 0, .int .i64 0, .int .i64 0, .int .i64 0, .int .i64 0, .int .i64 0, .int .i64 0, .int .i64 0, .int .i64 0, .int .i64 0, .int .i64 0, .int .i64 0] 33)
    have h64q : Hid (Bo (u58q.alloc (.cells #[.int .i64 0, .slice none 0 0, .int .i64 0, .int .i64 0, .int .i64 0, .int .i64 0, .int .i64 0, .int .i64 0, .int .i64 0, .int .i64 0, .int .i64 0, .int .i64 0, .int .i64 0, .int .i64 0, .int .i64 0, .int .i64 0, .int .i64 0, .int .i64 0, .int .i64 0] 33)) n (wl c)) := h60q.out.new (.cells #[.int .i64 0, .slice none 0 0, .int .i64 0, .int .i64 0, .int .i64 0, .int .i64 0, .int .i64 0, .int .i64 0, .int .i64 0, .int .i64 0, .int .i64 0, .int .i64 0, .int .i64 0, .int .i64 0, .int .i64 0, .int .i64 0, .int .i64 0, .int .i64 0, .int .i64 0] 33)
    clear h59q h60q
    have h65q : Hid (Bo (u58q.alloc (.cells #[.int .i64 0, .slice none 0 0, .int .i64 0, .int .i64 0, .int .i64 0, .int .i64 0, .int .i64 0, .int .i64 0, .int .i64 0, .int .i64 0, .int .i64 0, .int .i64 0, .int .i64 0, .int .i64 0, .int .i64 0, .int .i64 0, .int .i64 0, .int .i64 0, .int .i64 0] 33)) u58q.heap.size (tg 0 (.slice none 0 0) Tb.zero 0)) := Bo.bornTh u58q 0 33 (by simp)
    go_wp2_with (first
      | (refine wpList_store_mid rfl 33 _ _ rfl u58q.heap.size _ (tg kind v t x).toArray rfl rfl (h65q.out.thereT kind v t x) (HTZ.out _ _ _ _) (tg_all _ HV.out _ _) ?_
         have h66q : Hid (Gd n w ((u58q.alloc (.cells #[.int .i64 0, .slice none 0 0, .int .i64 0, .int .i64 0, .int .i64 0, .int .i64 0, .int .i64 0, .int .i64 0, .int .i64 0, .int .i64 0, .int .i64 0, .int .i64 0, .int .i64 0, .int .i64 0, .int .i64 0, .int .i64 0, .int .i64 0, .int .i64 0, .int .i64 0] 33)).setCells u58q.heap.size 0 (tg kind v t x))) := h63q.out.asideL (by omega) 0 (tg kind v t x)
         have h67q : Hid (Bo ((u58q.alloc (.cells #[.int .i64 0, .slice none 0 0, .int .i64 0, .int .i64 0, .int .i64 0, .int .i64 0, .int .i64 0, .int .i64 0, .int .i64 0, .int .i64 0, .int .i64 0, .int .i64 0, .int .i64 0, .int .i64 0, .int .i64 0, .int .i64 0, .int .i64 0, .int .i64 0, .int .i64 0] 33)).setCells u58q.heap.size 0 (tg kind v t x)) n (wl c)) := h64q.out.asideL (by omega) 0 (tg kind v t x)
         have h68q : Hid (Bo ((u58q.alloc (.cells #[.int .i64 0, .slice none 0 0, .int .i64 0, .int .i64 0, .int .i64 0, .int .i64 0, .int .i64 0, .int .i64 0, .int .i64 0, .int .i64 0, .int .i64 0, .int .i64 0, .int .i64 0, .int .i64 0, .int .i64 0, .int .i64 0, .int .i64 0, .int .i64 0, .int .i64 0] 33)).setCells u58q.heap.size 0 (tg kind v t x)) u58q.heap.size (tg kind v t x)) := h65q.out.setT kind v t x
         clear h63q h64q h65q
         generalize ((u58q.alloc (.cells #[.int .i64 0, .slice none 0 0, .int .i64 0, .int .i64 0, .int .i64 0, .int .i64 0, .int .i64 0, .int .i64 0, .int .i64 0, .int .i64 0, .int .i64 0, .int .i64 0, .int .i64 0, .int .i64 0, .int .i64 0, .int .i64 0, .int .i64 0, .int .i64 0, .int .i64 0] 33)).setCells u58q.heap.size 0 (tg kind v t x)) = u69q at h66q h67q h68q  ⊢)
      | (refine wpList_load_mid rfl 24 _ rfl n _ rfl (wl c) _ h67q.out.range HC.out rfl (HCS.out c) ?_))
    refine (SZ.out _).mono ?_
    rintro e u70q ⟨rfl, hb⟩
    have h71q : Hid (Gd n w u70q) := h66q.out.later hb
    have h72q : Hid (Bo u70q n (wl c)) := h67q.out.later hb
    have h73q : Hid (Bo u70q u58q.heap.size (tg kind v t x)) := h68q.out.later hb
    clear h66q h67q h68q
    clear hb
    go_wp2_with fail
    refine (bare_errno 1 1 _ (HandleAt.gd HT.out h71q.out)).mono ?_
    rintro e wz ⟨rfl, hg⟩
    have hb := hg.below
    have GZ : Hid _ := h71q.out.later hb
    clear hb hg
    go_wp2
    go_ret
    exact ⟨rfl, GZ.out.2⟩


set_option maxRecDepth 100000 in
theorem lifted (os : Os) (started : os.Started) (H : Type) (enc : TypeId × Value → H) :
    ReturnsInHanded {} Tryd.checked os 4 .any (fun w args => (Rows.objectSizesSpec.pre enc Tryd.prog Tryd.f4 [] false w args ∧ laidMetH Tryd.prog laidHandle w) ∧ sizedMet enc Tryd.prog Tryd.f4 (OpenSpec.ofChange Rows.objectSizesSpec) false w args)
      (Rows.objectSizesSpec.post enc Tryd.prog Tryd.f4 false true false false) := by
  refine returnsInHanded_of_change_and (C := Tryd.checked) (X := fun w _ => laidMetH Tryd.prog laidHandle w) (fun _ _ _ hh h => h.of_heap hh) own started (by kernel_rfl) Tryd.func4
    (ChangeSpec.witness_shaped (enc := enc) (C := Tryd.checked) (os := os) (X := fun w _ => laidMetH Tryd.prog laidHandle w) false (World.doorLaid Tryd.prog 400 os) #[.int .i64 0, .agg #[.int .u64 0, .int .u64 0, .int .u64 0, .int .u64 0, .int .u64 0, .int .u64 0, .int .u64 0, .int .u64 0, .int .u64 0, .int .u64 0, .int .u64 0, .int .u64 0, .int .u64 0, .int .u64 0, .int .u64 0, .int .u64 0, .int .u64 0]] 8 rfl (World.shaped_of_RefB (by kernel_rfl) (by kernel_rfl)) (by kernel_rfl) (by kernel_rfl) (by kernel_rfl) (door_handle os _)) ?_
  intro W base args ds gs before hval0 hW _ _ hL _
  have hval : ∀ (j : Nat) t v, Tryd.f4.params[j]? = some t → args[j]? = some v → Value.okWide Tryd.prog W .any base t v := hval0
  have hW' := hW
  obtain ⟨p, q, hA0, hV, rfl, hfz, hnd⟩ := hW
  have hA : DataW.TrodAll enc Tryd.prog W 0 (fun _ => true) true Tryd.f4.params.toList args.toList ds p := hA0
  rw [Tryd.params4] at hA hval
  obtain ⟨v0, vs0, d0, ds0, p0, q0, hargs, rfl, rfl, h0, r0⟩ := trodAll_cons hA
  obtain ⟨v1, vs1, d1, ds1, p1, q1, rfl, rfl, rfl, h1, r1⟩ := trodAll_cons r0
  obtain ⟨rfl, rfl, rfl⟩ := trodAll_nil r1
  obtain rfl : args = #[v0, v1] := by cases args; simp_all
  obtain ⟨rfl, rfl⟩ := trodVars_none hV
  obtain ⟨a0, rfl, rfl, rfl, w0⟩ := open_int Tryd.underlying3 (hval 0 3 v0 rfl rfl) h0
  obtain ⟨t1, rfl⟩ := cells_of_trod (hval 1 24 v1 rfl rfl) h1
  have hT := handle_of_laid hL
  have hlt := hW'.lt
  clear hA0 hval0
  refine (walk a0 t1 w0 W hT ).mono fun e W' ⟨he, hg⟩ => ?_
  subst he
  exact ⟨_, rfl, post_below (pv := []) hW' (fun _ _ _ => (trodAll_cons_mk (shut_bool Tryd.underlying4 _) trodAll_mk0)) (fun sp hsp => (trodAll_cons_mk (shut_int Tryd.underlying3 w0) (trodAll_cons_mk (cells_stay h1 hg (fun x hx => hlt x (by simp [hx])) (fun x hx => hsp x (by simp [hx]))) trodAll_mk0))) (fun _ _ => rfl) (by simp) (hg.frame _)⟩

theorem over : Rows.ObjectSizesSaid :=
  OpenClaim.holds_of_wide 4 Tryd.f4 rfl rfl rfl rfl rfl rfl rfl ⟨rfl, rfl, rfl, rfl, rfl⟩ rfl rfl rfl rfl rfl (by kernel_rfl) Tryd.func4 (by kernel_rfl)
    (of_decide_eq_true (by kernel_rfl)) (by unfold Func.isWrapper; first | (rw [if_pos (by decide +kernel)]; kernel_rfl) | (rw [if_neg (by decide +kernel)]; exact ⟨rfl, rfl⟩))
    (fun os started H enc _ => lifted os started H enc)

theorem proved : Rows.ObjectSizesCardSaid :=
  Claim7.holds_tied_plain_at .later [] [.handle] true (true, "83a4d323e7a196c91980795f288793d1439b4dc05817bfb4ba4a0158b449086e") true
    over (fun _ h => by cases h) (by kernel_rfl) (fun _ h => by cases h) objectSizes_row_tie rfl ⟨rfl, rfl⟩ (by kernel_rfl) rfl
    (fun f fn hf hfn => by
      obtain rfl : f = 4 := Option.some.inj ((show Tryd.prog.funcNamed "gristmill/gristmilllaw.ObjectSizes" = some 4 by kernel_rfl).symm.trans hf) |>.symm
      obtain rfl : fn = Tryd.f4 := (Option.some.inj (Tryd.func4.symm.trans hfn)).symm
      exact ⟨by kernel_rfl, fun j t ht => by
        rw [Tryd.params4] at ht
        have hm : t ∈ [3, 24] := by simpa using Array.mem_of_getElem? ht
        have hall : ([3, 24].all fun u => !Tryd.prog.wantsStandIn u) = true := by kernel_rfl
        exact (show Tryd.prog.wantsStandIn t = false by simpa using List.all_eq_true.1 hall t hm)⟩)
    (by kernel_rfl)
#print axioms proved
end Go.Proofs.YtbmgjpdfmgcigabDoor.Tab.objectSizes
