/- Texts laid together: Package judge: callsOf, by its contracts; Package judge: Fits, by its contracts; Package object: Do, where it refuses; Package object: what is done, by kinds: a map of functions; What is done, by kinds, from world to world. -/
import Derived.Test.YtaipanjigindbaaDoorPk04
import Derived.Deep.DeepCutAuto
import Derived.Deep.RegionHeld3
import Derived.Test.YtaipanjigindbaaDoorPk05
import Derived.Test.YtaipanjigindbaaDoorPk02
import Derived.Test.YtaipanjigindbaaDoorPk01
import Derived.Maps.Own
namespace Go.Proofs.YtaipanjigindbaaDoor.Tab
set_option maxRecDepth 20000
open Go.RowKit
set_option linter.unusedVariables false

/-- What callsOf answers. -/
def CallsY (w : World) (cs : List CC) (e : Ending) (w' : World) : Prop := ∃ v, e = .returned (.tuple #[v, .nilIface]) ∧ Oc w.heap.size w' v cs ∧ Below w.heap.size w w'
def CallsN (w : World) (m : Nat) (e : Ending) (w' : World) : Prop := ∃ b, e = .returned (.tuple #[.slice none 0 0, atV b]) ∧ w.heap.size ≤ b ∧ Bo w' b [.int .i64 10, .int .i64 (m : Nat)] ∧ Below w.heap.size w w'
theorem mapi_desc : Tryd.prog.underlying 111 = some (.map 3 3) := by kernel_rfl
theorem zero_int (w : World) : (zeroValue 3).run Tryd.prog w = .ok (.int .i64 0) w := by kernel_rfl
def mfn (h : Nat → EV) (cs : List CC) (t : Int) : Option Value := (opn h cs t).map fun k => .int .i64 (k : Nat)
theorem mfn_some {h : Nat → EV} {cs : List CC} {t : Int} {k : Nat} (e : opn h cs t = some k) : mfn h cs t = some (.int .i64 (k : Nat)) := by unfold mfn; rw [e]; rfl
theorem mfn_none {h : Nat → EV} {cs : List CC} {t : Int} (e : opn h cs t = none) : mfn h cs t = none := by unfold mfn; rw [e]; rfl
theorem Imp.any {W : World} {m n : Nat} {h : Nat → EV} {cs : List CC} (H : Imp W m n (mfn h cs)) {t : Int} (ht : (Lit.int .i64 t).wf = true) : ∃ (u : Int) (b : Bool), (Instr.lookup 111 (.map (some m)) (.int .i64 t) true).run Tryd.prog W = .ok (.tuple #[.int .i64 u, .bool b]) W := by
  cases e : opn h cs t with
  | none => exact ⟨0, false, H.miss mapi_desc zero_int ht (mfn_none e)⟩
  | some k => exact ⟨k, true, H.look mapi_desc zero_int ht (mfn_some e)⟩
set_option maxHeartbeats 2000000 in
theorem callsOf_nil  (w : World) :
    Calls Tryd.prog 25 #[.slice none 0 0] w (CallsY w []) := by
  have hmm := @run_makeMap Tryd.prog
  have hM : Hid _ := hid ((Ms.nil w).bornM rfl)
  go_enter Tryd.func25, Tryd.ntmps25
  go_wp2_with fail
  clear hmm
  generalize World.alloc _ _ = W at hM ⊢
  go_loopg [4, 13] 0 (fun gg s4 s13 wt => wt = W ∧ s4 = .slice none 0 0 ∧ s13 = .int .i64 0)
  case atStart => exact ⟨rfl, rfl, rfl⟩
  case round =>
    obtain ⟨hw, rfl, rfl⟩ := hrel
    rw [hw]; clear hw wr
    go_wp2
    go_ret2
    exact ⟨.slice none 0 0, rfl, Oc.nil _ _, hM.out.below⟩
set_option maxHeartbeats 2000000 in
theorem callsOf_none  (a : Addr) (c : Nat) (w : World) :
    Calls Tryd.prog 25 #[.slice (some a) 0 c] w (CallsY w []) := by
  have hmm := @run_makeMap Tryd.prog
  have hM : Hid _ := hid ((Ms.nil w).bornM rfl)
  go_enter Tryd.func25, Tryd.ntmps25
  go_wp2_with fail
  clear hmm
  generalize World.alloc _ _ = W at hM ⊢
  go_loopg [4, 13] 0 (fun gg s4 s13 wt => wt = W ∧ s4 = .slice none 0 0 ∧ s13 = .int .i64 0)
  case atStart => exact ⟨rfl, rfl, rfl⟩
  case round =>
    obtain ⟨hw, rfl, rfl⟩ := hrel
    rw [hw]; clear hw wr
    go_wp2
    go_ret2
    exact ⟨.slice none 0 0, rfl, Oc.nil _ _, hM.out.below⟩
set_option maxHeartbeats 16000000 in
theorem callsOf_some {b off c n : Nat} {h : Nat → EV} {fin : List CC} (h0 : 0 < n) (hc : n ≤ c) (hn : n ≤ 1000000) (hO : callsF h n = some fin) (w : World) (E : Ev w (.slice (some ⟨b, off, none⟩) n c) n h) :
    Calls Tryd.prog 25 #[.slice (some ⟨b, off, none⟩) n c] w (CallsY w fin) := by
  have HE : Hid _ := hid E.all
  clear E
  have HF : Hid _ := hO
  clear hO
  have HC : Hid (n ≤ c ∧ n ≤ 1000000) := ⟨hc, hn⟩
  clear hc hn h0
  have hmm := @run_makeMap Tryd.prog
  have hM : Hid _ := hid ((Ms.nil w).bornM rfl)
  have hS : Hid (Imp _ w.heap.size 0 _) := Imp.made w
  go_enter Tryd.func25, Tryd.ntmps25
  go_wp2_with fail
  clear hmm
  have hsz1 : Hid ((w.alloc (.map #[] 0)).heap.size = w.heap.size + 1) := hid (by simp)
  generalize World.alloc _ _ = W at hM hS hsz1 ⊢
  generalize hsz : w.heap.size = n0 at hM hS hsz1 ⊢
  have HSZ : Hid _ := hsz
  clear hsz
  go_loopg [4, 13] n (fun gg s4 s13 wt => ∃ (i : Nat) (cs : List CC), i ≤ n ∧ n - i ≤ gg ∧ s13 = .int .i64 i ∧ Hid (callsF h i = some cs) ∧ Hid (Oc (n0 + 1) wt s4 cs) ∧ Hid (Imp wt n0 i (mfn h cs)) ∧ Hid (n0 + 1 ≤ wt.heap.size) ∧ Hid (Ms n0 w wt [(n0, [])] []))
  case atStart => exact ⟨0, [], by omega, by omega, rfl, hid rfl, Oc.nil _ _, hS, hid (Nat.le_of_eq hsz1.out.symm), hM⟩
  case round =>
    clear hM hS hsz1
    obtain ⟨i, cs, hi, hgg, rfl, CF, hO, hS, HZ, hM⟩ := hrel
    obtain ⟨W, rfl⟩ : ∃ q, q = wr := ⟨_, rfl⟩
    have GG : Hid (GC h i cs) := GC.of CF.out
    by_cases hlt : i < n
    · have hi1 : (i : Int) < (n : Int) := by omega
      have hi0 : (0 : Int) ≤ (i : Int) := by omega
      have hrow := (HE.out W hM.out.below i (by omega)).1
      have hwf := (HE.out W hM.out.below i (by omega)).2
      obtain ⟨⟨kd, th, o, k, x, cc, y, wh, st⟩, he⟩ : ∃ e, h i = e := ⟨_, rfl⟩
      obtain ⟨ds, hst, hcf⟩ := callsF_next HF.out hlt CF.out
      have CF2 : Hid _ := hcf
      clear hcf
      rcases stepC_some hst with ⟨h3, hd⟩ | ⟨h1, hop, hd⟩ | ⟨kk, a, h2, hop, hk, heq, hd⟩
      · subst hd
        rw [he] at h3 hrow hwf
        replace h3 : kd = 3 := h3
        subst kd
        replace hwf : (Lit.int .i64 th).wf = true := hwf
        have HW : Hid _ := hwf
        clear hst hwf he
        have RA : Hid (W.rangeAt b (off + i * 9) (el 3 th o k x cc y wh st)) := hrow
        clear hrow
        obtain ⟨be, hbe⟩ : ∃ q, q = W.heap.size := ⟨_, rfl⟩
        have hOl : Hid (∀ gz, (u4).ownBlock = some gz → gz ≠ be) := fun gz hg => by have := (hO.out.lt gz hg).2; omega
        have HBE : Hid _ := hbe
        clear hbe
        go_wp2_with (first
          | (refine lO rfl RA.out rfl (rwEv 3 th o k x cc y wh st) ?_; clear RA)
          | (rw [← HBE.out]
             replace hS := hid (hS.out.new (.cells [.int .i64 0, .int .i64 0, .int .i64 0, .int .i64 0, .int .i64 0, .int .i64 0, .int .i64 0, .int .i64 0, .int .i64 0].toArray 85))
             replace hO := hid (hO.out.new (.cells [.int .i64 0, .int .i64 0, .int .i64 0, .int .i64 0, .int .i64 0, .int .i64 0, .int .i64 0, .int .i64 0, .int .i64 0].toArray 85))
             replace hM := hid (hM.out.born [.int .i64 0, .int .i64 0, .int .i64 0, .int .i64 0, .int .i64 0, .int .i64 0, .int .i64 0, .int .i64 0, .int .i64 0] 85 HBE.out)
             refine sR rfl (hM.out.at 0 rfl) rfl ((rwEv 0 0 0 0 0 0 0 0 0).len (rwEv 3 th o k x cc y wh st)) (rwEv 3 th o k x cc y wh st) ?_
             replace hS := hid (hS.out.asideL (hM.out.ne 1 0 rfl rfl (by decide)) 0 (el 3 th o k x cc y wh st))
             replace hO := hid (hO.out.asideL hOl.out 0 (el 3 th o k x cc y wh st))
             replace hM := hid (hM.out.put 0 rfl (el 3 th o k x cc y wh st) ((rwEv 0 0 0 0 0 0 0 0 0).len (rwEv 3 th o k x cc y wh st)))
             generalize World.setCells _ _ _ _ = W at hM hS hO ⊢
             clear HBE
             obtain ⟨uu, ub, lk⟩ := hS.out.any HW.out
             have LK : Hid _ := lk
             clear lk
             have c1 := hM.out.cell 0 0 rfl rfl
             have c2 := hM.out.cell 0 1 rfl rfl)
          | (at_lookup
             refine wpList_look rfl _ _ _ rfl rfl rfl LK.out ?_))
        clear c1 c2
        go_roundg (n - (i + 1))
        case measure => omega
        case rel => exact ⟨i + 1, ds, by omega, by omega, by have := HC.out; have hw : wrap64 ((i : Int) + 1) = ((i + 1 : Nat) : Int) := (by unfold wrap64; omega); rw [hw], CF2, hO, hS.out.mono (by omega), hid (hM.out.sz1), hM.out.pick [1]⟩
      · rw [he] at h1 hop hrow hwf
        replace h1 : kd = 1 := h1
        subst kd
        replace hwf : (Lit.int .i64 th).wf = true := hwf
        replace hop : opn h cs th = none := hop
        have HW : Hid _ := hwf
        have HOP : Hid _ := hop
        have MF : Hid (∀ t, mfn h ds t = if t = th then some (.int .i64 (cs.length : Nat)) else mfn h cs t) := fun t => by
          have := opn_ask GG.out (by rw [he]; exact hop) t
          rw [he] at this
          unfold mfn
          rw [hd, this]
          by_cases e : t = th
          · rw [if_pos e, if_pos e]; rfl
          · rw [if_neg e, if_neg e]
        have DS : Hid _ := hd
        have HL : Hid (cs.length ≤ i) := GG.out.len
        clear hst hwf he hop hd
        obtain ⟨va, vcap, rfl⟩ := hO.out.len
        have RA : Hid (W.rangeAt b (off + i * 9) (el 1 th o k x cc y wh st)) := hrow
        clear hrow
        obtain ⟨be, hbe⟩ : ∃ q, q = W.heap.size := ⟨_, rfl⟩
        have hOl : Hid (∀ gz, (Value.slice va cs.length vcap).ownBlock = some gz → gz ≠ be) := fun gz hg => by have := (hO.out.lt gz hg).2; omega
        have HBE : Hid _ := hbe
        clear hbe
        go_wp2_with (first
          | (refine lO rfl RA.out rfl (rwEv 1 th o k x cc y wh st) ?_; clear RA)
          | (rw [← HBE.out]
             replace hS := hid (hS.out.new (.cells [.int .i64 0, .int .i64 0, .int .i64 0, .int .i64 0, .int .i64 0, .int .i64 0, .int .i64 0, .int .i64 0, .int .i64 0].toArray 85))
             replace hO := hid (hO.out.new (.cells [.int .i64 0, .int .i64 0, .int .i64 0, .int .i64 0, .int .i64 0, .int .i64 0, .int .i64 0, .int .i64 0, .int .i64 0].toArray 85))
             replace hM := hid (hM.out.born [.int .i64 0, .int .i64 0, .int .i64 0, .int .i64 0, .int .i64 0, .int .i64 0, .int .i64 0, .int .i64 0, .int .i64 0] 85 HBE.out)
             refine sR rfl (hM.out.at 0 rfl) rfl ((rwEv 0 0 0 0 0 0 0 0 0).len (rwEv 1 th o k x cc y wh st)) (rwEv 1 th o k x cc y wh st) ?_
             replace hS := hid (hS.out.asideL (hM.out.ne 1 0 rfl rfl (by decide)) 0 (el 1 th o k x cc y wh st))
             replace hO := hid (hO.out.asideL hOl.out 0 (el 1 th o k x cc y wh st))
             replace hM := hid (hM.out.put 0 rfl (el 1 th o k x cc y wh st) ((rwEv 0 0 0 0 0 0 0 0 0).len (rwEv 1 th o k x cc y wh st)))
             generalize World.setCells _ _ _ _ = W at hM hS hO ⊢
             clear HBE
             have LK : Hid _ := hS.out.miss mapi_desc zero_int HW.out (mfn_none HOP.out)
             have c1 := hM.out.cell 0 0 rfl rfl
             have c2 := hM.out.cell 0 1 rfl rfl
             obtain ⟨W2, up, hS2, ht⟩ := hS.out.add mapi_desc (by have := HC.out; unfold maxLen; omega) HW.out (.int .i64 (cs.length : Nat))
             have hS3 : Hid _ := hid (hS2.congr MF.out)
             have hO3 : Hid _ := hid (Oc.turned hO.out (show n0 < n0 + 1 by omega) ht)
             have HZ3 : Hid (n0 + 1 ≤ W2.heap.size) := Nat.le_trans hM.out.sz1 ht.grown.size
             have hM3 : Hid _ := hid ((hM.out.turned 1 rfl ht.grown (fun j => hS2.froz j)).pick [1])
             have UP : Hid _ := up
             clear hS2 ht up)
          | (at_lookup
             refine wpList_look rfl _ _ _ rfl rfl rfl LK.out ?_)
          | (at_mapUpdate
             refine wpList_mapUp rfl _ _ _ _ rfl rfl rfl rfl UP.out ?_)
          | (at_builtin
             refine wpList_push rfl rfl (.tmp 46) (.tmp 49) rfl rfl rfl (B := n0 + 1) (cs := cs) (nb := W2.heap.size) (i := i) (by have := HZ3.out; simp; omega) (hO3.out.new _) (by simp) (by simp) (by have := HL.out; have := HC.out; omega) ?_
             intro v9 w9 hO9 hb9
             have hO : Hid _ := hid hO9
             have hS : Hid _ := hid ((hS3.out.new _).laterA hb9 (by omega))
             have HZ9 : Hid _ := hid (Nat.le_trans HZ3.out (Nat.le_trans (by simp) hb9.size))
             have hM : Hid _ := hid ((hM3.out.new _).laterA hb9 ⟨by omega, by intro b hb; simp at hb; omega⟩)
             rw [← DS.out] at hO
             clear hO9 hb9))
        clear c1 c2
        go_roundg (n - (i + 1))
        case measure => omega
        case rel => exact ⟨i + 1, ds, by omega, by omega, by have := HC.out; have hw : wrap64 ((i : Int) + 1) = ((i + 1 : Nat) : Int) := (by unfold wrap64; omega); rw [hw], CF2, hO, hS, HZ9, hM⟩
      · rw [he] at h2 hop hrow hwf heq
        replace h2 : kd = 2 := h2
        subst kd
        replace hwf : (Lit.int .i64 th).wf = true := hwf
        replace hop : opn h cs th = some kk := hop
        have HW : Hid _ := hwf
        have HOP : Hid _ := hop
        have MF : Hid (∀ t, mfn h ds t = if t = th then none else mfn h cs t) := fun t => by
          have := opn_answer GG.out (by rw [he]; exact hop) t
          rw [cg_of hk, he] at this
          unfold mfn
          rw [hd, this]
          by_cases e : t = th
          · rw [if_pos e, if_pos e]; rfl
          · rw [if_neg e, if_neg e]
        have DS : Hid _ := hd
        clear hst hwf he hop hd
        have ha : a < i := (GG.out.lt _ (List.mem_of_getElem? hk)).1
        have hra := (HE.out W hM.out.below a (by omega)).1
        obtain ⟨⟨kd2, th2, o2, k2, x2, cc2, y2, wh2, st2⟩, he2⟩ : ∃ e, h a = e := ⟨_, rfl⟩
        rw [he2] at hra heq
        obtain ⟨rfl, rfl, rfl⟩ : o = o2 ∧ k = k2 ∧ x = x2 := by simpa [EV.op] using heq
        have EQ := fun w => op_eq o k x o k x true (by simp) w
        clear heq
        obtain ⟨g, cap, hv, hgB, hcap, hcs⟩ : ∃ g cap, u4 = .slice (some ⟨g, 0, none⟩) cs.length cap ∧ n0 + 1 ≤ g ∧ cs.length ≤ cap ∧ Bo W g (ccs cs) := by
          rcases hO.out.form with ⟨_, rfl⟩ | h
          · simp at hk
          · exact h
        subst hv
        have hkl : kk < cs.length := (List.getElem?_eq_some_iff.1 hk).1
        have CK : Hid _ := ccs_get cs kk _ hk
        have HK : Hid _ := hk
        have HG : Hid (n0 + 1 ≤ g) := hgB
        have hk1 : (kk : Int) < (cs.length : Int) := by omega
        have hk0 : (0 : Int) ≤ (kk : Int) := by omega
        have ha1 : (a : Int) < (n : Int) := by omega
        have ha0 : (0 : Int) ≤ (a : Int) := by omega
        have HA : Hid (∀ W, Below w.heap.size w W → W.rangeAt b (off + a * 9) (el kd2 th2 o k x cc2 y2 wh2 st2)) := fun W hb => by have := (HE.out W hb a (by omega)).1; rw [he2] at this; exact this
        clear hcs hk ha hra he2 hcap hkl hgB
        have RA : Hid (W.rangeAt b (off + i * 9) (el 2 th o k x cc y wh st)) := hrow
        clear hrow
        obtain ⟨be, hbe⟩ : ∃ q, q = W.heap.size := ⟨_, rfl⟩
        have hOl : Hid (∀ gz, (Value.slice (some ⟨g, 0, none⟩) cs.length cap).ownBlock = some gz → gz ≠ be) := fun gz hg => by have := (hO.out.lt gz hg).2; omega
        have HBE : Hid _ := hbe
        clear hbe
        go_wp2_with (first
          | (refine lO rfl RA.out rfl (rwEv 2 th o k x cc y wh st) ?_; clear RA)
          | (rw [← HBE.out]
             replace hS := hid (hS.out.new (.cells [.int .i64 0, .int .i64 0, .int .i64 0, .int .i64 0, .int .i64 0, .int .i64 0, .int .i64 0, .int .i64 0, .int .i64 0].toArray 85))
             replace hO := hid (hO.out.new (.cells [.int .i64 0, .int .i64 0, .int .i64 0, .int .i64 0, .int .i64 0, .int .i64 0, .int .i64 0, .int .i64 0, .int .i64 0].toArray 85))
             replace hM := hid (hM.out.born [.int .i64 0, .int .i64 0, .int .i64 0, .int .i64 0, .int .i64 0, .int .i64 0, .int .i64 0, .int .i64 0, .int .i64 0] 85 HBE.out)
             refine sR rfl (hM.out.at 0 rfl) rfl ((rwEv 0 0 0 0 0 0 0 0 0).len (rwEv 2 th o k x cc y wh st)) (rwEv 2 th o k x cc y wh st) ?_
             replace hS := hid (hS.out.asideL (hM.out.ne 1 0 rfl rfl (by decide)) 0 (el 2 th o k x cc y wh st))
             replace hO := hid (hO.out.asideL hOl.out 0 (el 2 th o k x cc y wh st))
             replace hM := hid (hM.out.put 0 rfl (el 2 th o k x cc y wh st) ((rwEv 0 0 0 0 0 0 0 0 0).len (rwEv 2 th o k x cc y wh st)))
             generalize World.setCells _ _ _ _ = W at hM hS hO ⊢
             clear HBE
             have LK : Hid _ := hS.out.look mapi_desc zero_int HW.out (mfn_some HOP.out)
             have c1 := hM.out.cell 0 0 rfl rfl
             have c2 := hM.out.cell 0 1 rfl rfl)
          | (at_lookup
             refine wpList_look rfl _ _ _ rfl rfl rfl LK.out ?_))
        clear c1 c2
        replace hM := hid (hM.out.drew)
        replace hS := hid (hS.out.drew)
        replace hO := hid (hO.out.drew)
        refine wp_region_held_drew (S := fun w' => Bo w' be (el 2 th o k x cc y wh st) ∧ Bo w' g (ccs cs) ∧ w'.rangeAt b (off + a * 9) (el kd2 th2 o k x cc2 y2 wh2 st2)) (by kernel_rfl) ⟨hM.out.at 0 rfl, hO.out.bo, HA.out _ hM.out.below⟩ (fun hH => ?_)
        generalize World.drew _ = W at hM hH hS hO ⊢
        refine tk 0 rfl hH ?_
        simp only [Act.put, p1, p2, p3]
        refine tk 1 rfl hH ?_ (by intro w h; have c0 := h.1.at 0 rfl; clear h; go_simp; try with_reducible rfl)
        simp only [Act.put, p1, p2, p3]
        refine tk 2 rfl hH ?_
        simp only [Act.put, p1, p2, p3]
        refine tk 3 rfl hH ?_
        simp only [Act.put, p1, p2, p3]
        refine tk 4 rfl hH ?_
        simp only [Act.put, p1, p2, p3]
        refine tk 5 rfl hH ?_
        simp only [Act.put, p1, p2, p3]
        refine tk 6 rfl hH ?_
        simp only [Act.put, p1, p2, p3]
        refine tk 7 rfl hH ?_
        simp only [Act.put, p1, p2, p3]
        refine tk 8 rfl hH ?_ (by intro w h; have c0 := h.1.at 2 rfl; have c1 := h.1.at 3 rfl; have c2 := h.1.at 4 rfl; clear h; go_simp; try with_reducible rfl)
        simp only [Act.put, p1, p2, p3]
        refine tk 9 rfl hH ?_
        simp only [Act.put, p1, p2, p3]
        refine tk 10 rfl hH ?_
        simp only [Act.put, p1, p2, p3]
        refine tk 11 rfl hH ?_
        simp only [Act.put, p1, p2, p3]
        refine tk 12 rfl hH ?_
        simp only [Act.put, p1, p2, p3]
        refine tk 13 rfl hH ?_
        simp only [Act.put, p1, p2, p3]
        refine tk 14 rfl hH ?_ (by intro w h; have c0 := h.2.1.cell (kk * 2) _ CK.out.1; clear h; go_simp; try with_reducible rfl)
        simp only [Act.put, p1, p2, p3]
        refine tk 15 rfl hH ?_
        simp only [Act.put, p1, p2, p3]
        refine tk 16 rfl hH ?_
        simp only [Act.put, p1, p2, p3]
        refine tk 17 rfl hH ?_ (by intro w h; have c0 := h.2.2 2 _ rfl; have c1 := h.2.2 3 _ rfl; have c2 := h.2.2 4 _ rfl; clear h; go_simp; try with_reducible rfl)
        simp only [Act.put, p1, p2, p3]
        refine tk 18 rfl hH ?_
        simp only [Act.put, p1, p2, p3]
        refine tk 19 rfl hH ?_
        simp only [Act.put, p1, p2, p3]
        refine tk 20 rfl hH ?_
        simp only [Act.put, p1, p2, p3]
        refine wpAnyH_done (by kernel_rfl) ?_ _
        obtain ⟨W2, dl, hS2, ht⟩ := hS.out.del mapi_desc HW.out 0
        have hS3 : Hid _ := hid (hS2.congr MF.out)
        have hO3 : Hid _ := hid (Oc.turned hO.out (show n0 < n0 + 1 by omega) ht)
        have HZ3 : Hid (n0 + 1 ≤ W2.heap.size) := Nat.le_trans hM.out.sz1 ht.grown.size
        have hM3 : Hid _ := hid ((hM.out.turned 1 rfl ht.grown (fun j => hS2.froz j)).pick [1])
        have DL : Hid _ := dl
        clear hS2 ht dl
        have c3 := hM.out.cell 0 1 rfl rfl
        have cz := hO3.out.bo.cell (kk * 2 + 1) _ CK.out.2
        have fz := hO3.out.bo.froz (kk * 2 + 1)
        go_wp2_with (first
          | (at_delete
             refine wpList_del rfl _ _ _ _ rfl rfl rfl DL.out ?_))
        clear c3 cz fz
        have hO4 : Hid (Oc (n0 + 1) (W2.setCell ⟨g, kk * 2 + 1, none⟩ (.int .i64 (i : Nat))) (.slice (some ⟨g, 0, none⟩) cs.length cap) ds) := by rw [DS.out]; exact hO3.out.set HK.out (some i)
        have hS4 : Hid _ := hid (hS3.out.aside1 (c := g) (j := kk * 2 + 1) (by have := HG.out; omega) (.int .i64 (i : Nat)))
        have hM4 : Hid _ := hid (hM3.out.laterA ((Below.refl (n0 + 1) W2).setCell (p := ⟨g, kk * 2 + 1, none⟩) HG.out (.int .i64 (i : Nat))) ⟨by omega, by intro b hb; simp at hb; omega⟩)
        have HZ4 : Hid (n0 + 1 ≤ (W2.setCell ⟨g, kk * 2 + 1, none⟩ (.int .i64 (i : Nat))).heap.size) := hid (by have := HZ3.out; simpa using this)
        go_roundg (n - (i + 1))
        case measure => omega
        case rel => exact ⟨i + 1, ds, by omega, by omega, by have := HC.out; have hw : wrap64 ((i : Int) + 1) = ((i + 1 : Nat) : Int) := (by unfold wrap64; omega); rw [hw], CF2, hO4, hS4.out.mono (by omega), HZ4, hM4⟩
    · obtain rfl : i = n := by omega
      have hi1 : ¬ (i : Int) < (i : Int) := by omega
      obtain rfl : fin = cs := Option.some.inj (HF.out.symm.trans CF.out)
      go_wp2
      go_ret2
      exact ⟨u4, rfl, by rw [HSZ.out]; exact hO.out.mono_ (by omega), hM.out.below⟩
set_option maxHeartbeats 16000000 in
theorem callsOf_bad {b off c n m : Nat} {h : Nat → EV} {fin : List CC} (h0 : 0 < n) (hc : n ≤ c) (hn : n ≤ 1000000) (hm : m < n) (hO : callsF h m = some fin) (hB : stepC h m fin = none) (w : World) (E : Ev w (.slice (some ⟨b, off, none⟩) n c) n h) :
    Calls Tryd.prog 25 #[.slice (some ⟨b, off, none⟩) n c] w (CallsN w m) := by
  have HE : Hid _ := hid E.all
  clear E
  have HF : Hid _ := hO
  clear hO
  have HB : Hid _ := hB
  clear hB
  have HC : Hid (n ≤ c ∧ n ≤ 1000000) := ⟨hc, hn⟩
  clear hc hn h0
  have hmm := @run_makeMap Tryd.prog
  have hM : Hid _ := hid ((Ms.nil w).bornM rfl)
  have hS : Hid (Imp _ w.heap.size 0 _) := Imp.made w
  go_enter Tryd.func25, Tryd.ntmps25
  go_wp2_with fail
  clear hmm
  have hsz1 : Hid ((w.alloc (.map #[] 0)).heap.size = w.heap.size + 1) := hid (by simp)
  generalize World.alloc _ _ = W at hM hS hsz1 ⊢
  generalize hsz : w.heap.size = n0 at hM hS hsz1 ⊢
  have HSZ : Hid _ := hsz
  clear hsz
  go_loopg [4, 13] m (fun gg s4 s13 wt => ∃ (i : Nat) (cs : List CC), i ≤ m ∧ m - i ≤ gg ∧ s13 = .int .i64 i ∧ Hid (callsF h i = some cs) ∧ Hid (Oc (n0 + 1) wt s4 cs) ∧ Hid (Imp wt n0 i (mfn h cs)) ∧ Hid (n0 + 1 ≤ wt.heap.size) ∧ Hid (Ms n0 w wt [(n0, [])] []))
  case atStart => exact ⟨0, [], by omega, by omega, rfl, hid rfl, Oc.nil _ _, hS, hid (Nat.le_of_eq hsz1.out.symm), hM⟩
  case round =>
    clear hM hS hsz1
    obtain ⟨i, cs, hi, hgg, rfl, CF, hO, hS, HZ, hM⟩ := hrel
    obtain ⟨W, rfl⟩ : ∃ q, q = wr := ⟨_, rfl⟩
    have GG : Hid (GC h i cs) := GC.of CF.out
    by_cases hlt : i < m
    · have hi1 : (i : Int) < (n : Int) := by omega
      have hi0 : (0 : Int) ≤ (i : Int) := by omega
      have hrow := (HE.out W hM.out.below i (by omega)).1
      have hwf := (HE.out W hM.out.below i (by omega)).2
      obtain ⟨⟨kd, th, o, k, x, cc, y, wh, st⟩, he⟩ : ∃ e, h i = e := ⟨_, rfl⟩
      obtain ⟨ds, hst, hcf⟩ := callsF_next HF.out hlt CF.out
      have CF2 : Hid _ := hcf
      clear hcf
      rcases stepC_some hst with ⟨h3, hd⟩ | ⟨h1, hop, hd⟩ | ⟨kk, a, h2, hop, hk, heq, hd⟩
      · subst hd
        rw [he] at h3 hrow hwf
        replace h3 : kd = 3 := h3
        subst kd
        replace hwf : (Lit.int .i64 th).wf = true := hwf
        have HW : Hid _ := hwf
        clear hst hwf he
        have RA : Hid (W.rangeAt b (off + i * 9) (el 3 th o k x cc y wh st)) := hrow
        clear hrow
        obtain ⟨be, hbe⟩ : ∃ q, q = W.heap.size := ⟨_, rfl⟩
        have hOl : Hid (∀ gz, (u4).ownBlock = some gz → gz ≠ be) := fun gz hg => by have := (hO.out.lt gz hg).2; omega
        have HBE : Hid _ := hbe
        clear hbe
        go_wp2_with (first
          | (refine lO rfl RA.out rfl (rwEv 3 th o k x cc y wh st) ?_; clear RA)
          | (rw [← HBE.out]
             replace hS := hid (hS.out.new (.cells [.int .i64 0, .int .i64 0, .int .i64 0, .int .i64 0, .int .i64 0, .int .i64 0, .int .i64 0, .int .i64 0, .int .i64 0].toArray 85))
             replace hO := hid (hO.out.new (.cells [.int .i64 0, .int .i64 0, .int .i64 0, .int .i64 0, .int .i64 0, .int .i64 0, .int .i64 0, .int .i64 0, .int .i64 0].toArray 85))
             replace hM := hid (hM.out.born [.int .i64 0, .int .i64 0, .int .i64 0, .int .i64 0, .int .i64 0, .int .i64 0, .int .i64 0, .int .i64 0, .int .i64 0] 85 HBE.out)
             refine sR rfl (hM.out.at 0 rfl) rfl ((rwEv 0 0 0 0 0 0 0 0 0).len (rwEv 3 th o k x cc y wh st)) (rwEv 3 th o k x cc y wh st) ?_
             replace hS := hid (hS.out.asideL (hM.out.ne 1 0 rfl rfl (by decide)) 0 (el 3 th o k x cc y wh st))
             replace hO := hid (hO.out.asideL hOl.out 0 (el 3 th o k x cc y wh st))
             replace hM := hid (hM.out.put 0 rfl (el 3 th o k x cc y wh st) ((rwEv 0 0 0 0 0 0 0 0 0).len (rwEv 3 th o k x cc y wh st)))
             generalize World.setCells _ _ _ _ = W at hM hS hO ⊢
             clear HBE
             obtain ⟨uu, ub, lk⟩ := hS.out.any HW.out
             have LK : Hid _ := lk
             clear lk
             have c1 := hM.out.cell 0 0 rfl rfl
             have c2 := hM.out.cell 0 1 rfl rfl)
          | (at_lookup
             refine wpList_look rfl _ _ _ rfl rfl rfl LK.out ?_))
        clear c1 c2
        go_roundg (m - (i + 1))
        case measure => omega
        case rel => exact ⟨i + 1, ds, by omega, by omega, by have := HC.out; have hw : wrap64 ((i : Int) + 1) = ((i + 1 : Nat) : Int) := (by unfold wrap64; omega); rw [hw], CF2, hO, hS.out.mono (by omega), hid (hM.out.sz1), hM.out.pick [1]⟩
      · rw [he] at h1 hop hrow hwf
        replace h1 : kd = 1 := h1
        subst kd
        replace hwf : (Lit.int .i64 th).wf = true := hwf
        replace hop : opn h cs th = none := hop
        have HW : Hid _ := hwf
        have HOP : Hid _ := hop
        have MF : Hid (∀ t, mfn h ds t = if t = th then some (.int .i64 (cs.length : Nat)) else mfn h cs t) := fun t => by
          have := opn_ask GG.out (by rw [he]; exact hop) t
          rw [he] at this
          unfold mfn
          rw [hd, this]
          by_cases e : t = th
          · rw [if_pos e, if_pos e]; rfl
          · rw [if_neg e, if_neg e]
        have DS : Hid _ := hd
        have HL : Hid (cs.length ≤ i) := GG.out.len
        clear hst hwf he hop hd
        obtain ⟨va, vcap, rfl⟩ := hO.out.len
        have RA : Hid (W.rangeAt b (off + i * 9) (el 1 th o k x cc y wh st)) := hrow
        clear hrow
        obtain ⟨be, hbe⟩ : ∃ q, q = W.heap.size := ⟨_, rfl⟩
        have hOl : Hid (∀ gz, (Value.slice va cs.length vcap).ownBlock = some gz → gz ≠ be) := fun gz hg => by have := (hO.out.lt gz hg).2; omega
        have HBE : Hid _ := hbe
        clear hbe
        go_wp2_with (first
          | (refine lO rfl RA.out rfl (rwEv 1 th o k x cc y wh st) ?_; clear RA)
          | (rw [← HBE.out]
             replace hS := hid (hS.out.new (.cells [.int .i64 0, .int .i64 0, .int .i64 0, .int .i64 0, .int .i64 0, .int .i64 0, .int .i64 0, .int .i64 0, .int .i64 0].toArray 85))
             replace hO := hid (hO.out.new (.cells [.int .i64 0, .int .i64 0, .int .i64 0, .int .i64 0, .int .i64 0, .int .i64 0, .int .i64 0, .int .i64 0, .int .i64 0].toArray 85))
             replace hM := hid (hM.out.born [.int .i64 0, .int .i64 0, .int .i64 0, .int .i64 0, .int .i64 0, .int .i64 0, .int .i64 0, .int .i64 0, .int .i64 0] 85 HBE.out)
             refine sR rfl (hM.out.at 0 rfl) rfl ((rwEv 0 0 0 0 0 0 0 0 0).len (rwEv 1 th o k x cc y wh st)) (rwEv 1 th o k x cc y wh st) ?_
             replace hS := hid (hS.out.asideL (hM.out.ne 1 0 rfl rfl (by decide)) 0 (el 1 th o k x cc y wh st))
             replace hO := hid (hO.out.asideL hOl.out 0 (el 1 th o k x cc y wh st))
             replace hM := hid (hM.out.put 0 rfl (el 1 th o k x cc y wh st) ((rwEv 0 0 0 0 0 0 0 0 0).len (rwEv 1 th o k x cc y wh st)))
             generalize World.setCells _ _ _ _ = W at hM hS hO ⊢
             clear HBE
             have LK : Hid _ := hS.out.miss mapi_desc zero_int HW.out (mfn_none HOP.out)
             have c1 := hM.out.cell 0 0 rfl rfl
             have c2 := hM.out.cell 0 1 rfl rfl
             obtain ⟨W2, up, hS2, ht⟩ := hS.out.add mapi_desc (by have := HC.out; unfold maxLen; omega) HW.out (.int .i64 (cs.length : Nat))
             have hS3 : Hid _ := hid (hS2.congr MF.out)
             have hO3 : Hid _ := hid (Oc.turned hO.out (show n0 < n0 + 1 by omega) ht)
             have HZ3 : Hid (n0 + 1 ≤ W2.heap.size) := Nat.le_trans hM.out.sz1 ht.grown.size
             have hM3 : Hid _ := hid ((hM.out.turned 1 rfl ht.grown (fun j => hS2.froz j)).pick [1])
             have UP : Hid _ := up
             clear hS2 ht up)
          | (at_lookup
             refine wpList_look rfl _ _ _ rfl rfl rfl LK.out ?_)
          | (at_mapUpdate
             refine wpList_mapUp rfl _ _ _ _ rfl rfl rfl rfl UP.out ?_)
          | (at_builtin
             refine wpList_push rfl rfl (.tmp 46) (.tmp 49) rfl rfl rfl (B := n0 + 1) (cs := cs) (nb := W2.heap.size) (i := i) (by have := HZ3.out; simp; omega) (hO3.out.new _) (by simp) (by simp) (by have := HL.out; have := HC.out; omega) ?_
             intro v9 w9 hO9 hb9
             have hO : Hid _ := hid hO9
             have hS : Hid _ := hid ((hS3.out.new _).laterA hb9 (by omega))
             have HZ9 : Hid _ := hid (Nat.le_trans HZ3.out (Nat.le_trans (by simp) hb9.size))
             have hM : Hid _ := hid ((hM3.out.new _).laterA hb9 ⟨by omega, by intro b hb; simp at hb; omega⟩)
             rw [← DS.out] at hO
             clear hO9 hb9))
        clear c1 c2
        go_roundg (m - (i + 1))
        case measure => omega
        case rel => exact ⟨i + 1, ds, by omega, by omega, by have := HC.out; have hw : wrap64 ((i : Int) + 1) = ((i + 1 : Nat) : Int) := (by unfold wrap64; omega); rw [hw], CF2, hO, hS, HZ9, hM⟩
      · rw [he] at h2 hop hrow hwf heq
        replace h2 : kd = 2 := h2
        subst kd
        replace hwf : (Lit.int .i64 th).wf = true := hwf
        replace hop : opn h cs th = some kk := hop
        have HW : Hid _ := hwf
        have HOP : Hid _ := hop
        have MF : Hid (∀ t, mfn h ds t = if t = th then none else mfn h cs t) := fun t => by
          have := opn_answer GG.out (by rw [he]; exact hop) t
          rw [cg_of hk, he] at this
          unfold mfn
          rw [hd, this]
          by_cases e : t = th
          · rw [if_pos e, if_pos e]; rfl
          · rw [if_neg e, if_neg e]
        have DS : Hid _ := hd
        clear hst hwf he hop hd
        have ha : a < i := (GG.out.lt _ (List.mem_of_getElem? hk)).1
        have hra := (HE.out W hM.out.below a (by omega)).1
        obtain ⟨⟨kd2, th2, o2, k2, x2, cc2, y2, wh2, st2⟩, he2⟩ : ∃ e, h a = e := ⟨_, rfl⟩
        rw [he2] at hra heq
        obtain ⟨rfl, rfl, rfl⟩ : o = o2 ∧ k = k2 ∧ x = x2 := by simpa [EV.op] using heq
        have EQ := fun w => op_eq o k x o k x true (by simp) w
        clear heq
        obtain ⟨g, cap, hv, hgB, hcap, hcs⟩ : ∃ g cap, u4 = .slice (some ⟨g, 0, none⟩) cs.length cap ∧ n0 + 1 ≤ g ∧ cs.length ≤ cap ∧ Bo W g (ccs cs) := by
          rcases hO.out.form with ⟨_, rfl⟩ | h
          · simp at hk
          · exact h
        subst hv
        have hkl : kk < cs.length := (List.getElem?_eq_some_iff.1 hk).1
        have CK : Hid _ := ccs_get cs kk _ hk
        have HK : Hid _ := hk
        have HG : Hid (n0 + 1 ≤ g) := hgB
        have hk1 : (kk : Int) < (cs.length : Int) := by omega
        have hk0 : (0 : Int) ≤ (kk : Int) := by omega
        have ha1 : (a : Int) < (n : Int) := by omega
        have ha0 : (0 : Int) ≤ (a : Int) := by omega
        have HA : Hid (∀ W, Below w.heap.size w W → W.rangeAt b (off + a * 9) (el kd2 th2 o k x cc2 y2 wh2 st2)) := fun W hb => by have := (HE.out W hb a (by omega)).1; rw [he2] at this; exact this
        clear hcs hk ha hra he2 hcap hkl hgB
        have RA : Hid (W.rangeAt b (off + i * 9) (el 2 th o k x cc y wh st)) := hrow
        clear hrow
        obtain ⟨be, hbe⟩ : ∃ q, q = W.heap.size := ⟨_, rfl⟩
        have hOl : Hid (∀ gz, (Value.slice (some ⟨g, 0, none⟩) cs.length cap).ownBlock = some gz → gz ≠ be) := fun gz hg => by have := (hO.out.lt gz hg).2; omega
        have HBE : Hid _ := hbe
        clear hbe
        go_wp2_with (first
          | (refine lO rfl RA.out rfl (rwEv 2 th o k x cc y wh st) ?_; clear RA)
          | (rw [← HBE.out]
             replace hS := hid (hS.out.new (.cells [.int .i64 0, .int .i64 0, .int .i64 0, .int .i64 0, .int .i64 0, .int .i64 0, .int .i64 0, .int .i64 0, .int .i64 0].toArray 85))
             replace hO := hid (hO.out.new (.cells [.int .i64 0, .int .i64 0, .int .i64 0, .int .i64 0, .int .i64 0, .int .i64 0, .int .i64 0, .int .i64 0, .int .i64 0].toArray 85))
             replace hM := hid (hM.out.born [.int .i64 0, .int .i64 0, .int .i64 0, .int .i64 0, .int .i64 0, .int .i64 0, .int .i64 0, .int .i64 0, .int .i64 0] 85 HBE.out)
             refine sR rfl (hM.out.at 0 rfl) rfl ((rwEv 0 0 0 0 0 0 0 0 0).len (rwEv 2 th o k x cc y wh st)) (rwEv 2 th o k x cc y wh st) ?_
             replace hS := hid (hS.out.asideL (hM.out.ne 1 0 rfl rfl (by decide)) 0 (el 2 th o k x cc y wh st))
             replace hO := hid (hO.out.asideL hOl.out 0 (el 2 th o k x cc y wh st))
             replace hM := hid (hM.out.put 0 rfl (el 2 th o k x cc y wh st) ((rwEv 0 0 0 0 0 0 0 0 0).len (rwEv 2 th o k x cc y wh st)))
             generalize World.setCells _ _ _ _ = W at hM hS hO ⊢
             clear HBE
             have LK : Hid _ := hS.out.look mapi_desc zero_int HW.out (mfn_some HOP.out)
             have c1 := hM.out.cell 0 0 rfl rfl
             have c2 := hM.out.cell 0 1 rfl rfl)
          | (at_lookup
             refine wpList_look rfl _ _ _ rfl rfl rfl LK.out ?_))
        clear c1 c2
        replace hM := hid (hM.out.drew)
        replace hS := hid (hS.out.drew)
        replace hO := hid (hO.out.drew)
        refine wp_region_held_drew (S := fun w' => Bo w' be (el 2 th o k x cc y wh st) ∧ Bo w' g (ccs cs) ∧ w'.rangeAt b (off + a * 9) (el kd2 th2 o k x cc2 y2 wh2 st2)) (by kernel_rfl) ⟨hM.out.at 0 rfl, hO.out.bo, HA.out _ hM.out.below⟩ (fun hH => ?_)
        generalize World.drew _ = W at hM hH hS hO ⊢
        refine tk 0 rfl hH ?_
        simp only [Act.put, p1, p2, p3]
        refine tk 1 rfl hH ?_ (by intro w h; have c0 := h.1.at 0 rfl; clear h; go_simp; try with_reducible rfl)
        simp only [Act.put, p1, p2, p3]
        refine tk 2 rfl hH ?_
        simp only [Act.put, p1, p2, p3]
        refine tk 3 rfl hH ?_
        simp only [Act.put, p1, p2, p3]
        refine tk 4 rfl hH ?_
        simp only [Act.put, p1, p2, p3]
        refine tk 5 rfl hH ?_
        simp only [Act.put, p1, p2, p3]
        refine tk 6 rfl hH ?_
        simp only [Act.put, p1, p2, p3]
        refine tk 7 rfl hH ?_
        simp only [Act.put, p1, p2, p3]
        refine tk 8 rfl hH ?_ (by intro w h; have c0 := h.1.at 2 rfl; have c1 := h.1.at 3 rfl; have c2 := h.1.at 4 rfl; clear h; go_simp; try with_reducible rfl)
        simp only [Act.put, p1, p2, p3]
        refine tk 9 rfl hH ?_
        simp only [Act.put, p1, p2, p3]
        refine tk 10 rfl hH ?_
        simp only [Act.put, p1, p2, p3]
        refine tk 11 rfl hH ?_
        simp only [Act.put, p1, p2, p3]
        refine tk 12 rfl hH ?_
        simp only [Act.put, p1, p2, p3]
        refine tk 13 rfl hH ?_
        simp only [Act.put, p1, p2, p3]
        refine tk 14 rfl hH ?_ (by intro w h; have c0 := h.2.1.cell (kk * 2) _ CK.out.1; clear h; go_simp; try with_reducible rfl)
        simp only [Act.put, p1, p2, p3]
        refine tk 15 rfl hH ?_
        simp only [Act.put, p1, p2, p3]
        refine tk 16 rfl hH ?_
        simp only [Act.put, p1, p2, p3]
        refine tk 17 rfl hH ?_ (by intro w h; have c0 := h.2.2 2 _ rfl; have c1 := h.2.2 3 _ rfl; have c2 := h.2.2 4 _ rfl; clear h; go_simp; try with_reducible rfl)
        simp only [Act.put, p1, p2, p3]
        refine tk 18 rfl hH ?_
        simp only [Act.put, p1, p2, p3]
        refine tk 19 rfl hH ?_
        simp only [Act.put, p1, p2, p3]
        refine tk 20 rfl hH ?_
        simp only [Act.put, p1, p2, p3]
        refine wpAnyH_done (by kernel_rfl) ?_ _
        obtain ⟨W2, dl, hS2, ht⟩ := hS.out.del mapi_desc HW.out 0
        have hS3 : Hid _ := hid (hS2.congr MF.out)
        have hO3 : Hid _ := hid (Oc.turned hO.out (show n0 < n0 + 1 by omega) ht)
        have HZ3 : Hid (n0 + 1 ≤ W2.heap.size) := Nat.le_trans hM.out.sz1 ht.grown.size
        have hM3 : Hid _ := hid ((hM.out.turned 1 rfl ht.grown (fun j => hS2.froz j)).pick [1])
        have DL : Hid _ := dl
        clear hS2 ht dl
        have c3 := hM.out.cell 0 1 rfl rfl
        have cz := hO3.out.bo.cell (kk * 2 + 1) _ CK.out.2
        have fz := hO3.out.bo.froz (kk * 2 + 1)
        go_wp2_with (first
          | (at_delete
             refine wpList_del rfl _ _ _ _ rfl rfl rfl DL.out ?_))
        clear c3 cz fz
        have hO4 : Hid (Oc (n0 + 1) (W2.setCell ⟨g, kk * 2 + 1, none⟩ (.int .i64 (i : Nat))) (.slice (some ⟨g, 0, none⟩) cs.length cap) ds) := by rw [DS.out]; exact hO3.out.set HK.out (some i)
        have hS4 : Hid _ := hid (hS3.out.aside1 (c := g) (j := kk * 2 + 1) (by have := HG.out; omega) (.int .i64 (i : Nat)))
        have hM4 : Hid _ := hid (hM3.out.laterA ((Below.refl (n0 + 1) W2).setCell (p := ⟨g, kk * 2 + 1, none⟩) HG.out (.int .i64 (i : Nat))) ⟨by omega, by intro b hb; simp at hb; omega⟩)
        have HZ4 : Hid (n0 + 1 ≤ (W2.setCell ⟨g, kk * 2 + 1, none⟩ (.int .i64 (i : Nat))).heap.size) := hid (by have := HZ3.out; simpa using this)
        go_roundg (m - (i + 1))
        case measure => omega
        case rel => exact ⟨i + 1, ds, by omega, by omega, by have := HC.out; have hw : wrap64 ((i : Int) + 1) = ((i + 1 : Nat) : Int) := (by unfold wrap64; omega); rw [hw], CF2, hO4, hS4.out.mono (by omega), HZ4, hM4⟩
    · obtain rfl : i = m := by omega
      obtain rfl : cs = fin := Option.some.inj (CF.out.symm.trans HF.out)
      have hi1 : (i : Int) < (n : Int) := by omega
      have hi0 : (0 : Int) ≤ (i : Int) := by omega
      have hrow := (HE.out W hM.out.below i (by omega)).1
      have hwf := (HE.out W hM.out.below i (by omega)).2
      obtain ⟨⟨kd, th, o, k, x, cc, y, wh, st⟩, he⟩ : ∃ e, h i = e := ⟨_, rfl⟩
      obtain ⟨h3, hor⟩ := stepC_none HB.out
      rw [he] at h3 hrow hwf hor
      replace hwf : (Lit.int .i64 th).wf = true := hwf
      have HW : Hid _ := hwf
      replace h3 : kd ≠ 3 := h3
      rcases hor with ⟨hop, h1⟩ | ⟨kk, a, hop, hk, hor⟩
      · replace h1 : kd ≠ 1 := h1
        replace hop : opn h cs th = none := hop
        clear he hwf
        by_cases h2 : kd = 2
        · subst kd
          clear h1 h3
          have RA : Hid (W.rangeAt b (off + i * 9) (el 2 th o k x cc y wh st)) := hrow
          clear hrow
          obtain ⟨be, hbe⟩ : ∃ q, q = W.heap.size := ⟨_, rfl⟩
          have hOl : Hid (∀ gz, (u4).ownBlock = some gz → gz ≠ be) := fun gz hg => by have := (hO.out.lt gz hg).2; omega
          have HBE : Hid _ := hbe
          clear hbe
          go_wp2_with (first
            | (refine lO rfl RA.out rfl (rwEv 2 th o k x cc y wh st) ?_; clear RA)
            | (rw [← HBE.out]
               replace hS := hid (hS.out.new (.cells [.int .i64 0, .int .i64 0, .int .i64 0, .int .i64 0, .int .i64 0, .int .i64 0, .int .i64 0, .int .i64 0, .int .i64 0].toArray 85))
               replace hO := hid (hO.out.new (.cells [.int .i64 0, .int .i64 0, .int .i64 0, .int .i64 0, .int .i64 0, .int .i64 0, .int .i64 0, .int .i64 0, .int .i64 0].toArray 85))
               replace hM := hid (hM.out.born [.int .i64 0, .int .i64 0, .int .i64 0, .int .i64 0, .int .i64 0, .int .i64 0, .int .i64 0, .int .i64 0, .int .i64 0] 85 HBE.out)
               refine sR rfl (hM.out.at 0 rfl) rfl ((rwEv 0 0 0 0 0 0 0 0 0).len (rwEv 2 th o k x cc y wh st)) (rwEv 2 th o k x cc y wh st) ?_
               replace hS := hid (hS.out.asideL (hM.out.ne 1 0 rfl rfl (by decide)) 0 (el 2 th o k x cc y wh st))
               replace hO := hid (hO.out.asideL hOl.out 0 (el 2 th o k x cc y wh st))
               replace hM := hid (hM.out.put 0 rfl (el 2 th o k x cc y wh st) ((rwEv 0 0 0 0 0 0 0 0 0).len (rwEv 2 th o k x cc y wh st)))
               generalize World.setCells _ _ _ _ = W at hM hS hO ⊢
               clear HBE
               have LK : Hid _ := hS.out.miss mapi_desc zero_int HW.out (mfn_none hop)
               have c1 := hM.out.cell 0 0 rfl rfl
               have c2 := hM.out.cell 0 1 rfl rfl)
            | (at_lookup
               refine wpList_look rfl _ _ _ rfl rfl rfl LK.out ?_))
          clear c1 c2
          replace hM := hid (hM.out.drew)
          replace hS := hid (hS.out.drew)
          replace hO := hid (hO.out.drew)
          refine wp_region_held_drew (S := fun w' => Bo w' be (el 2 th o k x cc y wh st)) (by kernel_rfl) (hM.out.at 0 rfl) (fun hH => ?_)
          generalize World.drew _ = W at hM hH hS hO ⊢
          refine tk 0 rfl hH ?_
          simp only [Act.put, p1, p2, p3]
          refine tk 1 rfl hH ?_ (by intro w h; have c0 := h.at 0 rfl; clear h; go_simp; try with_reducible rfl)
          simp only [Act.put, p1, p2, p3]
          refine tk 2 rfl hH ?_
          simp only [Act.put, p1, p2, p3]
          refine tk 3 rfl hH ?_
          simp only [Act.put, p1, p2, p3]
          refine tk 4 rfl hH ?_
          simp only [Act.put, p1, p2, p3]
          refine tk 5 rfl hH ?_
          simp only [Act.put, p1, p2, p3]
          refine tk 6 rfl hH ?_
          simp only [Act.put, p1, p2, p3]
          refine tkN 7 rfl hH ?_
          simp only [Act.put, p1, p2, p3]
          refine tkN 8 rfl hH ?_
          simp only [Act.put, p1, p2, p3]
          refine tkN 9 rfl hH ?_
          simp only [Act.put, p1, p2, p3]
          refine tkN 10 rfl hH ?_
          simp only [Act.put, p1, p2, p3]
          refine tkN 11 rfl hH ?_
          simp only [Act.put, p1, p2, p3]
          refine tkN 12 rfl hH ?_
          simp only [Act.put, p1, p2, p3]
          refine tkN 13 rfl hH ?_
          simp only [Act.put, p1, p2, p3]
          refine tkN 14 rfl hH ?_
          simp only [Act.put, p1, p2, p3]
          refine tkN 15 rfl hH ?_
          simp only [Act.put, p1, p2, p3]
          refine tkN 16 rfl hH ?_
          simp only [Act.put, p1, p2, p3]
          refine tkN 17 rfl hH ?_
          simp only [Act.put, p1, p2, p3]
          refine tkN 18 rfl hH ?_
          simp only [Act.put, p1, p2, p3]
          refine tk 19 rfl hH ?_
          simp only [Act.put, p1, p2, p3]
          refine tk 20 rfl hH ?_
          simp only [Act.put, p1, p2, p3]
          refine wpAnyH_done (by kernel_rfl) ?_ _
          have hM9 : Hid _ := hid (hM.out.born [.int .i64 10, .int .i64 (i : Nat)] 73 rfl)
          go_wp2
          go_ret2
          exact ⟨W.heap.size, rfl, by rw [HSZ.out]; exact hM.out.le, hM9.out.at 0 rfl, hM9.out.below⟩
        · have k1 : (kd == 1) = false := beq_eq_false_iff_ne.2 h1
          have k2 : (kd == 2) = false := beq_eq_false_iff_ne.2 h2
          have k3 : (kd == 3) = false := beq_eq_false_iff_ne.2 h3
          clear h1 h2 h3
          have RA : Hid (W.rangeAt b (off + i * 9) (el kd th o k x cc y wh st)) := hrow
          clear hrow
          obtain ⟨be, hbe⟩ : ∃ q, q = W.heap.size := ⟨_, rfl⟩
          have hOl : Hid (∀ gz, (u4).ownBlock = some gz → gz ≠ be) := fun gz hg => by have := (hO.out.lt gz hg).2; omega
          have HBE : Hid _ := hbe
          clear hbe
          go_wp2_with (first
            | (refine lO rfl RA.out rfl (rwEv kd th o k x cc y wh st) ?_; clear RA)
            | (rw [← HBE.out]
               replace hS := hid (hS.out.new (.cells [.int .i64 0, .int .i64 0, .int .i64 0, .int .i64 0, .int .i64 0, .int .i64 0, .int .i64 0, .int .i64 0, .int .i64 0].toArray 85))
               replace hO := hid (hO.out.new (.cells [.int .i64 0, .int .i64 0, .int .i64 0, .int .i64 0, .int .i64 0, .int .i64 0, .int .i64 0, .int .i64 0, .int .i64 0].toArray 85))
               replace hM := hid (hM.out.born [.int .i64 0, .int .i64 0, .int .i64 0, .int .i64 0, .int .i64 0, .int .i64 0, .int .i64 0, .int .i64 0, .int .i64 0] 85 HBE.out)
               refine sR rfl (hM.out.at 0 rfl) rfl ((rwEv 0 0 0 0 0 0 0 0 0).len (rwEv kd th o k x cc y wh st)) (rwEv kd th o k x cc y wh st) ?_
               replace hS := hid (hS.out.asideL (hM.out.ne 1 0 rfl rfl (by decide)) 0 (el kd th o k x cc y wh st))
               replace hO := hid (hO.out.asideL hOl.out 0 (el kd th o k x cc y wh st))
               replace hM := hid (hM.out.put 0 rfl (el kd th o k x cc y wh st) ((rwEv 0 0 0 0 0 0 0 0 0).len (rwEv kd th o k x cc y wh st)))
               generalize World.setCells _ _ _ _ = W at hM hS hO ⊢
               clear HBE
               have LK : Hid _ := hS.out.miss mapi_desc zero_int HW.out (mfn_none hop)
               have c1 := hM.out.cell 0 0 rfl rfl
               have c2 := hM.out.cell 0 1 rfl rfl)
            | (at_lookup
               refine wpList_look rfl _ _ _ rfl rfl rfl LK.out ?_))
          clear c1 c2
          replace hM := hid (hM.out.drew)
          replace hS := hid (hS.out.drew)
          replace hO := hid (hO.out.drew)
          refine wp_region_held_drew (S := fun w' => Bo w' be (el kd th o k x cc y wh st)) (by kernel_rfl) (hM.out.at 0 rfl) (fun hH => ?_)
          generalize World.drew _ = W at hM hH hS hO ⊢
          refine tk 0 rfl hH ?_
          simp only [Act.put, p1, p2, p3]
          refine tk 1 rfl hH ?_ (by intro w h; have c0 := h.at 0 rfl; clear h; go_simp; try with_reducible rfl)
          simp only [Act.put, p1, p2, p3]
          refine tk 2 rfl hH ?_
          simp only [Act.put, p1, p2, p3]
          refine tk 3 rfl hH ?_
          simp only [Act.put, p1, p2, p3]
          refine tkN 4 rfl hH ?_
          simp only [Act.put, p1, p2, p3]
          refine tk 5 rfl hH ?_
          simp only [Act.put, p1, p2, p3]
          refine tk 6 rfl hH ?_
          simp only [Act.put, p1, p2, p3]
          refine tkN 7 rfl hH ?_
          simp only [Act.put, p1, p2, p3]
          refine tkN 8 rfl hH ?_
          simp only [Act.put, p1, p2, p3]
          refine tkN 9 rfl hH ?_
          simp only [Act.put, p1, p2, p3]
          refine tkN 10 rfl hH ?_
          simp only [Act.put, p1, p2, p3]
          refine tkN 11 rfl hH ?_
          simp only [Act.put, p1, p2, p3]
          refine tkN 12 rfl hH ?_
          simp only [Act.put, p1, p2, p3]
          refine tkN 13 rfl hH ?_
          simp only [Act.put, p1, p2, p3]
          refine tkN 14 rfl hH ?_
          simp only [Act.put, p1, p2, p3]
          refine tkN 15 rfl hH ?_
          simp only [Act.put, p1, p2, p3]
          refine tkN 16 rfl hH ?_
          simp only [Act.put, p1, p2, p3]
          refine tkN 17 rfl hH ?_
          simp only [Act.put, p1, p2, p3]
          refine tkN 18 rfl hH ?_
          simp only [Act.put, p1, p2, p3]
          refine tk 19 rfl hH ?_
          simp only [Act.put, p1, p2, p3]
          refine tk 20 rfl hH ?_
          simp only [Act.put, p1, p2, p3]
          refine wpAnyH_done (by kernel_rfl) ?_ _
          have hM9 : Hid _ := hid (hM.out.born [.int .i64 10, .int .i64 (i : Nat)] 73 rfl)
          go_wp2
          go_ret2
          exact ⟨W.heap.size, rfl, by rw [HSZ.out]; exact hM.out.le, hM9.out.at 0 rfl, hM9.out.below⟩
      · replace hop : opn h cs th = some kk := hop
        by_cases h2 : kd = 2
        · have HOP : Hid _ := hop
          subst kd
          replace hor := hor.resolve_left (fun h => h rfl)
          have heq := hor
          clear hor h3 he hwf hop
          have ha : a < i := (GG.out.lt _ (List.mem_of_getElem? hk)).1
          have hra := (HE.out W hM.out.below a (by omega)).1
          obtain ⟨⟨kd2, th2, o2, k2, x2, cc2, y2, wh2, st2⟩, he2⟩ : ∃ e, h a = e := ⟨_, rfl⟩
          rw [he2] at hra heq
          have EQ := fun w => op_eq o k x o2 k2 x2 false (by simpa [EV.op] using heq) w
          clear heq
          obtain ⟨g, cap, hv, hgB, hcap, hcs⟩ : ∃ g cap, u4 = .slice (some ⟨g, 0, none⟩) cs.length cap ∧ n0 + 1 ≤ g ∧ cs.length ≤ cap ∧ Bo W g (ccs cs) := by
            rcases hO.out.form with ⟨_, rfl⟩ | h
            · simp at hk
            · exact h
          subst hv
          have hkl : kk < cs.length := (List.getElem?_eq_some_iff.1 hk).1
          have CK : Hid _ := ccs_get cs kk _ hk
          have HK : Hid _ := hk
          have HG : Hid (n0 + 1 ≤ g) := hgB
          have hk1 : (kk : Int) < (cs.length : Int) := by omega
          have hk0 : (0 : Int) ≤ (kk : Int) := by omega
          have ha1 : (a : Int) < (n : Int) := by omega
          have ha0 : (0 : Int) ≤ (a : Int) := by omega
          have HA : Hid (∀ W, Below w.heap.size w W → W.rangeAt b (off + a * 9) (el kd2 th2 o2 k2 x2 cc2 y2 wh2 st2)) := fun W hb => by have := (HE.out W hb a (by omega)).1; rw [he2] at this; exact this
          clear hcs hk ha hra he2 hcap hkl hgB
          have RA : Hid (W.rangeAt b (off + i * 9) (el 2 th o k x cc y wh st)) := hrow
          clear hrow
          obtain ⟨be, hbe⟩ : ∃ q, q = W.heap.size := ⟨_, rfl⟩
          have hOl : Hid (∀ gz, (Value.slice (some ⟨g, 0, none⟩) cs.length cap).ownBlock = some gz → gz ≠ be) := fun gz hg => by have := (hO.out.lt gz hg).2; omega
          have HBE : Hid _ := hbe
          clear hbe
          go_wp2_with (first
            | (refine lO rfl RA.out rfl (rwEv 2 th o k x cc y wh st) ?_; clear RA)
            | (rw [← HBE.out]
               replace hS := hid (hS.out.new (.cells [.int .i64 0, .int .i64 0, .int .i64 0, .int .i64 0, .int .i64 0, .int .i64 0, .int .i64 0, .int .i64 0, .int .i64 0].toArray 85))
               replace hO := hid (hO.out.new (.cells [.int .i64 0, .int .i64 0, .int .i64 0, .int .i64 0, .int .i64 0, .int .i64 0, .int .i64 0, .int .i64 0, .int .i64 0].toArray 85))
               replace hM := hid (hM.out.born [.int .i64 0, .int .i64 0, .int .i64 0, .int .i64 0, .int .i64 0, .int .i64 0, .int .i64 0, .int .i64 0, .int .i64 0] 85 HBE.out)
               refine sR rfl (hM.out.at 0 rfl) rfl ((rwEv 0 0 0 0 0 0 0 0 0).len (rwEv 2 th o k x cc y wh st)) (rwEv 2 th o k x cc y wh st) ?_
               replace hS := hid (hS.out.asideL (hM.out.ne 1 0 rfl rfl (by decide)) 0 (el 2 th o k x cc y wh st))
               replace hO := hid (hO.out.asideL hOl.out 0 (el 2 th o k x cc y wh st))
               replace hM := hid (hM.out.put 0 rfl (el 2 th o k x cc y wh st) ((rwEv 0 0 0 0 0 0 0 0 0).len (rwEv 2 th o k x cc y wh st)))
               generalize World.setCells _ _ _ _ = W at hM hS hO ⊢
               clear HBE
               have LK : Hid _ := hS.out.look mapi_desc zero_int HW.out (mfn_some HOP.out)
               have c1 := hM.out.cell 0 0 rfl rfl
               have c2 := hM.out.cell 0 1 rfl rfl)
            | (at_lookup
               refine wpList_look rfl _ _ _ rfl rfl rfl LK.out ?_))
          clear c1 c2
          replace hM := hid (hM.out.drew)
          replace hS := hid (hS.out.drew)
          replace hO := hid (hO.out.drew)
          refine wp_region_held_drew (S := fun w' => Bo w' be (el 2 th o k x cc y wh st) ∧ Bo w' g (ccs cs) ∧ w'.rangeAt b (off + a * 9) (el kd2 th2 o2 k2 x2 cc2 y2 wh2 st2)) (by kernel_rfl) ⟨hM.out.at 0 rfl, hO.out.bo, HA.out _ hM.out.below⟩ (fun hH => ?_)
          generalize World.drew _ = W at hM hH hS hO ⊢
          refine tk 0 rfl hH ?_
          simp only [Act.put, p1, p2, p3]
          refine tk 1 rfl hH ?_ (by intro w h; have c0 := h.1.at 0 rfl; clear h; go_simp; try with_reducible rfl)
          simp only [Act.put, p1, p2, p3]
          refine tk 2 rfl hH ?_
          simp only [Act.put, p1, p2, p3]
          refine tk 3 rfl hH ?_
          simp only [Act.put, p1, p2, p3]
          refine tk 4 rfl hH ?_
          simp only [Act.put, p1, p2, p3]
          refine tk 5 rfl hH ?_
          simp only [Act.put, p1, p2, p3]
          refine tk 6 rfl hH ?_
          simp only [Act.put, p1, p2, p3]
          refine tk 7 rfl hH ?_
          simp only [Act.put, p1, p2, p3]
          refine tk 8 rfl hH ?_ (by intro w h; have c0 := h.1.at 2 rfl; have c1 := h.1.at 3 rfl; have c2 := h.1.at 4 rfl; clear h; go_simp; try with_reducible rfl)
          simp only [Act.put, p1, p2, p3]
          refine tk 9 rfl hH ?_
          simp only [Act.put, p1, p2, p3]
          refine tk 10 rfl hH ?_
          simp only [Act.put, p1, p2, p3]
          refine tk 11 rfl hH ?_
          simp only [Act.put, p1, p2, p3]
          refine tk 12 rfl hH ?_
          simp only [Act.put, p1, p2, p3]
          refine tk 13 rfl hH ?_
          simp only [Act.put, p1, p2, p3]
          refine tk 14 rfl hH ?_ (by intro w h; have c0 := h.2.1.cell (kk * 2) _ CK.out.1; clear h; go_simp; try with_reducible rfl)
          simp only [Act.put, p1, p2, p3]
          refine tk 15 rfl hH ?_
          simp only [Act.put, p1, p2, p3]
          refine tk 16 rfl hH ?_
          simp only [Act.put, p1, p2, p3]
          refine tk 17 rfl hH ?_ (by intro w h; have c0 := h.2.2 2 _ rfl; have c1 := h.2.2 3 _ rfl; have c2 := h.2.2 4 _ rfl; clear h; go_simp; try with_reducible rfl)
          simp only [Act.put, p1, p2, p3]
          refine tk 18 rfl hH ?_
          simp only [Act.put, p1, p2, p3]
          refine tk 19 rfl hH ?_
          simp only [Act.put, p1, p2, p3]
          refine tk 20 rfl hH ?_
          simp only [Act.put, p1, p2, p3]
          refine wpAnyH_done (by kernel_rfl) ?_ _
          have hM9 : Hid _ := hid (hM.out.born [.int .i64 10, .int .i64 (i : Nat)] 73 rfl)
          go_wp2
          go_ret2
          exact ⟨W.heap.size, rfl, by rw [HSZ.out]; exact hM.out.le, hM9.out.at 0 rfl, hM9.out.below⟩
        · clear hor he hwf hk
          by_cases h1 : kd = 1
          · subst kd
            clear h2 h3
            have RA : Hid (W.rangeAt b (off + i * 9) (el 1 th o k x cc y wh st)) := hrow
            clear hrow
            obtain ⟨be, hbe⟩ : ∃ q, q = W.heap.size := ⟨_, rfl⟩
            have hOl : Hid (∀ gz, (u4).ownBlock = some gz → gz ≠ be) := fun gz hg => by have := (hO.out.lt gz hg).2; omega
            have HBE : Hid _ := hbe
            clear hbe
            go_wp2_with (first
              | (refine lO rfl RA.out rfl (rwEv 1 th o k x cc y wh st) ?_; clear RA)
              | (rw [← HBE.out]
                 replace hS := hid (hS.out.new (.cells [.int .i64 0, .int .i64 0, .int .i64 0, .int .i64 0, .int .i64 0, .int .i64 0, .int .i64 0, .int .i64 0, .int .i64 0].toArray 85))
                 replace hO := hid (hO.out.new (.cells [.int .i64 0, .int .i64 0, .int .i64 0, .int .i64 0, .int .i64 0, .int .i64 0, .int .i64 0, .int .i64 0, .int .i64 0].toArray 85))
                 replace hM := hid (hM.out.born [.int .i64 0, .int .i64 0, .int .i64 0, .int .i64 0, .int .i64 0, .int .i64 0, .int .i64 0, .int .i64 0, .int .i64 0] 85 HBE.out)
                 refine sR rfl (hM.out.at 0 rfl) rfl ((rwEv 0 0 0 0 0 0 0 0 0).len (rwEv 1 th o k x cc y wh st)) (rwEv 1 th o k x cc y wh st) ?_
                 replace hS := hid (hS.out.asideL (hM.out.ne 1 0 rfl rfl (by decide)) 0 (el 1 th o k x cc y wh st))
                 replace hO := hid (hO.out.asideL hOl.out 0 (el 1 th o k x cc y wh st))
                 replace hM := hid (hM.out.put 0 rfl (el 1 th o k x cc y wh st) ((rwEv 0 0 0 0 0 0 0 0 0).len (rwEv 1 th o k x cc y wh st)))
                 generalize World.setCells _ _ _ _ = W at hM hS hO ⊢
                 clear HBE
                 have LK : Hid _ := hS.out.look mapi_desc zero_int HW.out (mfn_some hop)
                 have c1 := hM.out.cell 0 0 rfl rfl
                 have c2 := hM.out.cell 0 1 rfl rfl)
              | (at_lookup
                 refine wpList_look rfl _ _ _ rfl rfl rfl LK.out ?_))
            clear c1 c2
            replace hM := hid (hM.out.drew)
            replace hS := hid (hS.out.drew)
            replace hO := hid (hO.out.drew)
            refine wp_region_held_drew (S := fun w' => Bo w' be (el 1 th o k x cc y wh st)) (by kernel_rfl) (hM.out.at 0 rfl) (fun hH => ?_)
            generalize World.drew _ = W at hM hH hS hO ⊢
            refine tk 0 rfl hH ?_
            simp only [Act.put, p1, p2, p3]
            refine tk 1 rfl hH ?_ (by intro w h; have c0 := h.at 0 rfl; clear h; go_simp; try with_reducible rfl)
            simp only [Act.put, p1, p2, p3]
            refine tk 2 rfl hH ?_
            simp only [Act.put, p1, p2, p3]
            refine tk 3 rfl hH ?_
            simp only [Act.put, p1, p2, p3]
            refine tkN 4 rfl hH ?_
            simp only [Act.put, p1, p2, p3]
            refine tk 5 rfl hH ?_
            simp only [Act.put, p1, p2, p3]
            refine tk 6 rfl hH ?_
            simp only [Act.put, p1, p2, p3]
            refine tkN 7 rfl hH ?_
            simp only [Act.put, p1, p2, p3]
            refine tkN 8 rfl hH ?_
            simp only [Act.put, p1, p2, p3]
            refine tkN 9 rfl hH ?_
            simp only [Act.put, p1, p2, p3]
            refine tkN 10 rfl hH ?_
            simp only [Act.put, p1, p2, p3]
            refine tkN 11 rfl hH ?_
            simp only [Act.put, p1, p2, p3]
            refine tkN 12 rfl hH ?_
            simp only [Act.put, p1, p2, p3]
            refine tkN 13 rfl hH ?_
            simp only [Act.put, p1, p2, p3]
            refine tkN 14 rfl hH ?_
            simp only [Act.put, p1, p2, p3]
            refine tkN 15 rfl hH ?_
            simp only [Act.put, p1, p2, p3]
            refine tkN 16 rfl hH ?_
            simp only [Act.put, p1, p2, p3]
            refine tkN 17 rfl hH ?_
            simp only [Act.put, p1, p2, p3]
            refine tkN 18 rfl hH ?_
            simp only [Act.put, p1, p2, p3]
            refine tk 19 rfl hH ?_
            simp only [Act.put, p1, p2, p3]
            refine tk 20 rfl hH ?_
            simp only [Act.put, p1, p2, p3]
            refine wpAnyH_done (by kernel_rfl) ?_ _
            have hM9 : Hid _ := hid (hM.out.born [.int .i64 10, .int .i64 (i : Nat)] 73 rfl)
            go_wp2
            go_ret2
            exact ⟨W.heap.size, rfl, by rw [HSZ.out]; exact hM.out.le, hM9.out.at 0 rfl, hM9.out.below⟩
          · have k1 : (kd == 1) = false := beq_eq_false_iff_ne.2 h1
            have k2 : (kd == 2) = false := beq_eq_false_iff_ne.2 h2
            have k3 : (kd == 3) = false := beq_eq_false_iff_ne.2 h3
            clear h1 h2 h3
            have RA : Hid (W.rangeAt b (off + i * 9) (el kd th o k x cc y wh st)) := hrow
            clear hrow
            obtain ⟨be, hbe⟩ : ∃ q, q = W.heap.size := ⟨_, rfl⟩
            have hOl : Hid (∀ gz, (u4).ownBlock = some gz → gz ≠ be) := fun gz hg => by have := (hO.out.lt gz hg).2; omega
            have HBE : Hid _ := hbe
            clear hbe
            go_wp2_with (first
              | (refine lO rfl RA.out rfl (rwEv kd th o k x cc y wh st) ?_; clear RA)
              | (rw [← HBE.out]
                 replace hS := hid (hS.out.new (.cells [.int .i64 0, .int .i64 0, .int .i64 0, .int .i64 0, .int .i64 0, .int .i64 0, .int .i64 0, .int .i64 0, .int .i64 0].toArray 85))
                 replace hO := hid (hO.out.new (.cells [.int .i64 0, .int .i64 0, .int .i64 0, .int .i64 0, .int .i64 0, .int .i64 0, .int .i64 0, .int .i64 0, .int .i64 0].toArray 85))
                 replace hM := hid (hM.out.born [.int .i64 0, .int .i64 0, .int .i64 0, .int .i64 0, .int .i64 0, .int .i64 0, .int .i64 0, .int .i64 0, .int .i64 0] 85 HBE.out)
                 refine sR rfl (hM.out.at 0 rfl) rfl ((rwEv 0 0 0 0 0 0 0 0 0).len (rwEv kd th o k x cc y wh st)) (rwEv kd th o k x cc y wh st) ?_
                 replace hS := hid (hS.out.asideL (hM.out.ne 1 0 rfl rfl (by decide)) 0 (el kd th o k x cc y wh st))
                 replace hO := hid (hO.out.asideL hOl.out 0 (el kd th o k x cc y wh st))
                 replace hM := hid (hM.out.put 0 rfl (el kd th o k x cc y wh st) ((rwEv 0 0 0 0 0 0 0 0 0).len (rwEv kd th o k x cc y wh st)))
                 generalize World.setCells _ _ _ _ = W at hM hS hO ⊢
                 clear HBE
                 have LK : Hid _ := hS.out.look mapi_desc zero_int HW.out (mfn_some hop)
                 have c1 := hM.out.cell 0 0 rfl rfl
                 have c2 := hM.out.cell 0 1 rfl rfl)
              | (at_lookup
                 refine wpList_look rfl _ _ _ rfl rfl rfl LK.out ?_))
            clear c1 c2
            replace hM := hid (hM.out.drew)
            replace hS := hid (hS.out.drew)
            replace hO := hid (hO.out.drew)
            refine wp_region_held_drew (S := fun w' => Bo w' be (el kd th o k x cc y wh st)) (by kernel_rfl) (hM.out.at 0 rfl) (fun hH => ?_)
            generalize World.drew _ = W at hM hH hS hO ⊢
            refine tk 0 rfl hH ?_
            simp only [Act.put, p1, p2, p3]
            refine tk 1 rfl hH ?_ (by intro w h; have c0 := h.at 0 rfl; clear h; go_simp; try with_reducible rfl)
            simp only [Act.put, p1, p2, p3]
            refine tk 2 rfl hH ?_
            simp only [Act.put, p1, p2, p3]
            refine tk 3 rfl hH ?_
            simp only [Act.put, p1, p2, p3]
            refine tkN 4 rfl hH ?_
            simp only [Act.put, p1, p2, p3]
            refine tk 5 rfl hH ?_
            simp only [Act.put, p1, p2, p3]
            refine tk 6 rfl hH ?_
            simp only [Act.put, p1, p2, p3]
            refine tkN 7 rfl hH ?_
            simp only [Act.put, p1, p2, p3]
            refine tkN 8 rfl hH ?_
            simp only [Act.put, p1, p2, p3]
            refine tkN 9 rfl hH ?_
            simp only [Act.put, p1, p2, p3]
            refine tkN 10 rfl hH ?_
            simp only [Act.put, p1, p2, p3]
            refine tkN 11 rfl hH ?_
            simp only [Act.put, p1, p2, p3]
            refine tkN 12 rfl hH ?_
            simp only [Act.put, p1, p2, p3]
            refine tkN 13 rfl hH ?_
            simp only [Act.put, p1, p2, p3]
            refine tkN 14 rfl hH ?_
            simp only [Act.put, p1, p2, p3]
            refine tkN 15 rfl hH ?_
            simp only [Act.put, p1, p2, p3]
            refine tkN 16 rfl hH ?_
            simp only [Act.put, p1, p2, p3]
            refine tkN 17 rfl hH ?_
            simp only [Act.put, p1, p2, p3]
            refine tkN 18 rfl hH ?_
            simp only [Act.put, p1, p2, p3]
            refine tk 19 rfl hH ?_
            simp only [Act.put, p1, p2, p3]
            refine tk 20 rfl hH ?_
            simp only [Act.put, p1, p2, p3]
            refine wpAnyH_done (by kernel_rfl) ?_ _
            have hM9 : Hid _ := hid (hM.out.born [.int .i64 10, .int .i64 (i : Nat)] 73 rfl)
            go_wp2
            go_ret2
            exact ⟨W.heap.size, rfl, by rw [HSZ.out]; exact hM.out.le, hM9.out.at 0 rfl, hM9.out.below⟩
theorem callsOf_yes {v : Value} {n : Nat} {h : Nat → EV} {fin : List CC} {w : World} (E : Ev w v n h) (hn : n ≤ 1000000) (hO : callsF h n = some fin) :
    Calls Tryd.prog 25 #[v] w (CallsY w fin) := by
  rcases id E with ⟨h0, a, c, hv, ha⟩ | ⟨b, off, c, hv, h0, hc, _, _⟩
  · subst hv h0
    obtain rfl : fin = [] := (Option.some.inj hO).symm
    cases a with
    | none => obtain rfl := ha rfl; exact callsOf_nil w
    | some a => exact callsOf_none a c w
  · subst hv; exact callsOf_some h0 hc hn hO w E
theorem callsOf_not {v : Value} {n m : Nat} {h : Nat → EV} {fin : List CC} {w : World} (E : Ev w v n h) (hn : n ≤ 1000000) (hm : m < n) (hO : callsF h m = some fin) (hB : stepC h m fin = none) :
    Calls Tryd.prog 25 #[v] w (CallsN w m) := by
  rcases id E with ⟨h0, a, c, hv, ha⟩ | ⟨b, off, c, hv, h0, hc, _, _⟩
  · omega
  · subst hv; exact callsOf_bad h0 hc hn hm hO hB w E
end Go.Proofs.YtaipanjigindbaaDoor.Tab
namespace Go.Proofs.YtaipanjigindbaaDoor.Tab
set_option maxRecDepth 20000
open Go.RowKit
set_option linter.unusedVariables false

theorem Ev.form {w : World} {v : Value} {n : Nat} {h : Nat → EV} (E : Ev w v n h) : ∃ a c, v = .slice a n c := by
  rcases E with ⟨h, a, c, e, _⟩ | ⟨b, off, c, e, _⟩
  · exact ⟨a, c, h ▸ e⟩
  · exact ⟨_, c, e⟩
theorem Ev.some {w : World} {a : Option Addr} {c n : Nat} {h : Nat → EV} (E : Ev w (.slice a n c) n h) (hn : 0 < n) : ∃ b off, a = some ⟨b, off, none⟩ ∧ n ≤ c := by
  rcases E with ⟨h, _⟩ | ⟨b, off, c2, hv, _, hc, _⟩
  · omega
  · injection hv with e1 e2 e3
    exact ⟨b, off, e1, e3 ▸ hc⟩
def Ret (w : World) (v : Value) (e : Ending) (w' : World) : Prop := e = .returned v ∧ Below w.heap.size w w'
def errV (c : Int) : Value := .iface 24 (.int .i64 c)
def ordV (b : Bool) : Value := if b then .nilIface else errV 6
set_option maxHeartbeats 2000000 in
theorem fits_order {ve vd : Value} {n k : Nat} {h : Nat → EV} {cs : List CC} {w : World} (E : Ev w ve n h) (hn : n ≤ 1000000) (hk : k < n) (e1 : callsF h k = some cs) (e2 : stepC h k cs = none) :
    Calls Tryd.prog 10 #[ve, vd] w (fun e w' => ∃ b, e = .returned (atV b) ∧ w.heap.size ≤ b ∧ Bo w' b [.int .i64 10, .int .i64 (k : Nat)] ∧ Below w.heap.size w w') := by
  have CO : Hid _ := hid (callsOf_not E hn hk e1 e2)
  clear E hn hk e1 e2
  have hM : Hid _ := (Ms.nil w)
  go_enter Tryd.func10, Tryd.ntmps10
  go_wp2_with fail
  refine (CO.out).mono ?_
  rintro e W ⟨b, rfl, h1, h2, h3⟩
  have H : Hid _ := hid (And.intro h1 (And.intro h2 h3))
  clear h1 h2 h3 hM
  unfold atV
  go_wp2
  go_ret
  exact ⟨b, rfl, H.out.1, H.out.2.1, H.out.2.2⟩
set_option maxHeartbeats 8000000 in
theorem fits_ans {vea vda : Option Addr} {vec vdc n m : Nat} {h : Nat → EV} {q : Nat → DD} {cs : List CC} {c : Int} (h0 : 0 < cs.length) (ea : ansF h q m cs cs.length = .error c) (w : World) (E : Ev w (.slice vea n vec) n h) (D : Dq w (.slice vda m vdc) m q) (hn : n ≤ 1000000) (hm : m ≤ 1000000) (hwt : ∀ i, i < m → (Lit.int .i64 (q i).t).wf = true) (hcs : callsF h n = some cs) :
    Calls Tryd.prog 10 #[.slice vea n vec, .slice vda m vdc] w (Ret w (errV c)) := by
  have CO : Hid _ := hid (callsOf_yes E hn hcs)
  have GG : Hid (GC h n cs) := GC.of hcs
  have HE : Hid _ := hid E
  have HD : Hid _ := hid D
  have HW : Hid _ := hwt
  have HN : Hid (n ≤ 1000000 ∧ m ≤ 1000000) := ⟨hn, hm⟩
  clear E D hwt hcs
  obtain ⟨kb, blb, hk, f1, f2⟩ := ansF_bad ea
  have KB : Hid _ := hid (And.intro hk (And.intro f1 f2))
  clear hk f1 f2 ea
  obtain ⟨eb, eo, rfl, hec⟩ := HE.out.some (by have := GG.out.len; omega)
  have HEC : Hid (n ≤ vec) := hec
  clear hec
  have hM : Hid _ := (Ms.nil w)
  go_enter Tryd.func10, Tryd.ntmps10
  go_wp2_with fail
  refine (CO.out).mono ?_
  rintro e W ⟨vc, rfl, hoc, hb⟩
  obtain ⟨g, cap, rfl, hgB, hcap, hB⟩ : ∃ g cap, vc = .slice (some ⟨g, 0, none⟩) cs.length cap ∧ w.heap.size ≤ g ∧ cs.length ≤ cap ∧ Bo W g (ccs cs) := by
    rcases hoc.form with ⟨_, e⟩ | e
    · rw [e] at h0; cases h0
    · exact e
  replace hM := hid (hM.out.laterB hb hgB hB)
  have HCAP : Hid (cs.length ≤ cap) := hcap
  have H0 : Hid (0 < cs.length) := h0
  clear hoc hb hgB hB hcap h0
  have mk := mkby g m hm
  obtain ⟨bb, hbb⟩ : ∃ q, q = W.heap.size := ⟨_, rfl⟩
  replace hM := hid (hM.out.born (byr g (List.replicate m none)) 115 hbb)
  have HBB : Hid _ := hbb
  clear hbb
  go_wp2_with fail
  clear mk
  rw [← HBB.out]
  generalize World.alloc _ _ = W at hM ⊢
  refine (giveA_bad hM.out (Y := ⟨Or.inr ⟨cap, rfl, HCAP.out, List.mem_singleton.2 rfl⟩, GG.out, HE.out, HD.out, HN.out⟩) (List.mem_singleton.2 rfl) HCAP.out HEC.out KB.out.1 KB.out.2.1 KB.out.2.2).mono ?_
  rintro e W ⟨rfl, bl2, hM⟩
  have hM := hid hM
  go_wp2
  go_ret
  exact ⟨rfl, hM.out.below⟩
set_option maxHeartbeats 8000000 in
theorem fits_open {vea vda : Option Addr} {vec vdc n m : Nat} {h : Nat → EV} {q : Nat → DD} {cs : List CC} {c : Int} {bl : List (Option Nat)} (h0 : 0 < cs.length) (ea : ansF h q m cs cs.length = .ok bl) (eo : opnF h q cs bl m = .error c) (w : World) (E : Ev w (.slice vea n vec) n h) (D : Dq w (.slice vda m vdc) m q) (hn : n ≤ 1000000) (hm : m ≤ 1000000) (hwt : ∀ i, i < m → (Lit.int .i64 (q i).t).wf = true) (hcs : callsF h n = some cs) :
    Calls Tryd.prog 10 #[.slice vea n vec, .slice vda m vdc] w (Ret w (errV c)) := by
  have CO : Hid _ := hid (callsOf_yes E hn hcs)
  have GG : Hid (GC h n cs) := GC.of hcs
  have HE : Hid _ := hid E
  have HD : Hid _ := hid D
  have HW : Hid _ := hwt
  have HN : Hid (n ≤ 1000000 ∧ m ≤ 1000000) := ⟨hn, hm⟩
  clear E D hwt hcs
  obtain ⟨kb, sb, hk, f1, f2⟩ := opnF_bad eo
  have KB : Hid _ := hid (And.intro hk (And.intro f1 f2))
  have hm0 : 0 < m := by omega
  clear hk f1 f2 eo
  have EA : Hid _ := ea
  have HLN : Hid (bl.length = m) := ansF_len ea
  clear ea
  obtain ⟨eb, eof, rfl, hec⟩ := HE.out.some (by have := GG.out.len; omega)
  have HEC : Hid (n ≤ vec) := hec
  clear hec
  obtain ⟨db, dof, rfl, hdc⟩ := HD.out.some hm0
  have HDC : Hid (m ≤ vdc) := hdc
  clear hdc hm0
  have hM : Hid _ := (Ms.nil w)
  go_enter Tryd.func10, Tryd.ntmps10
  go_wp2_with fail
  refine (CO.out).mono ?_
  rintro e W ⟨vc, rfl, hoc, hb⟩
  obtain ⟨g, cap, rfl, hgB, hcap, hB⟩ : ∃ g cap, vc = .slice (some ⟨g, 0, none⟩) cs.length cap ∧ w.heap.size ≤ g ∧ cs.length ≤ cap ∧ Bo W g (ccs cs) := by
    rcases hoc.form with ⟨_, e⟩ | e
    · rw [e] at h0; cases h0
    · exact e
  replace hM := hid (hM.out.laterB hb hgB hB)
  have HCAP : Hid (cs.length ≤ cap) := hcap
  have H0 : Hid (0 < cs.length) := h0
  clear hoc hb hgB hB hcap h0
  have mk := mkby g m hm
  obtain ⟨bb, hbb⟩ : ∃ q, q = W.heap.size := ⟨_, rfl⟩
  replace hM := hid (hM.out.born (byr g (List.replicate m none)) 115 hbb)
  have HBB : Hid _ := hbb
  clear hbb
  go_wp2_with fail
  clear mk
  rw [← HBB.out]
  generalize World.alloc _ _ = W at hM ⊢
  refine (giveA_some hM.out (Y := ⟨Or.inr ⟨cap, rfl, HCAP.out, List.mem_singleton.2 rfl⟩, GG.out, HE.out, HD.out, HN.out⟩) (List.mem_singleton.2 rfl) HCAP.out HEC.out EA.out).mono ?_
  rintro e W ⟨rfl, hM⟩
  have hM := hid hM
  go_wp2_with fail
  refine (giveO_bad hM.out (Y := ⟨Or.inr ⟨cap, rfl, HCAP.out, List.mem_singleton.2 rfl⟩, GG.out, HE.out, HD.out, HN.out⟩) (List.mem_singleton.2 rfl) HCAP.out HEC.out HDC.out HLN.out HW.out KB.out.1 KB.out.2.1 KB.out.2.2).mono ?_
  rintro e W ⟨rfl, bl2, hM⟩
  have hM := hid hM
  go_wp2
  go_ret
  exact ⟨rfl, hM.out.below⟩
set_option maxHeartbeats 8000000 in
theorem fits_end {vea vda : Option Addr} {vec vdc n m : Nat} {h : Nat → EV} {q : Nat → DD} {cs : List CC} {bl : List (Option Nat)} {s : BU} (h0 : 0 < cs.length) (hm0 : 0 < m) (ea : ansF h q m cs cs.length = .ok bl) (eo : opnF h q cs bl m = .ok s) (w : World) (E : Ev w (.slice vea n vec) n h) (D : Dq w (.slice vda m vdc) m q) (hn : n ≤ 1000000) (hm : m ≤ 1000000) (hwt : ∀ i, i < m → (Lit.int .i64 (q i).t).wf = true) (hcs : callsF h n = some cs) :
    Calls Tryd.prog 10 #[.slice vea n vec, .slice vda m vdc] w (Ret w (ordV (ordB cs s.1 m))) := by
  have CO : Hid _ := hid (callsOf_yes E hn hcs)
  have GG : Hid (GC h n cs) := GC.of hcs
  have HE : Hid _ := hid E
  have HD : Hid _ := hid D
  have HW : Hid _ := hwt
  have HN : Hid (n ≤ 1000000 ∧ m ≤ 1000000) := ⟨hn, hm⟩
  clear E D hwt hcs
  have HLN : Hid (bl.length = m) := ansF_len ea
  have hall := opnF_all (by rw [HLN.out]; exact Nat.le_refl _) eo
  have hlt := opnF_lt (ansF_lt (Nat.le_refl _) ea) (by rw [HLN.out]; exact Nat.le_refl _) eo
  have HALL : Hid (∀ j, j < m → ∃ k, s.1[j]? = some (some k)) := hall
  have HU : Hid (∀ j, j < m → uof s.1 j < cs.length) := fun j hj => by obtain ⟨k, hk⟩ := hall j hj; rw [uof_of hk]; exact hlt j k hk
  clear hall hlt
  have EA : Hid _ := ea
  have EO : Hid _ := eo
  clear ea eo
  obtain ⟨eb, eof, rfl, hec⟩ := HE.out.some (by have := GG.out.len; omega)
  have HEC : Hid (n ≤ vec) := hec
  clear hec
  obtain ⟨db, dof, rfl, hdc⟩ := HD.out.some hm0
  have HDC : Hid (m ≤ vdc) := hdc
  clear hdc hm0
  have hM : Hid _ := (Ms.nil w)
  go_enter Tryd.func10, Tryd.ntmps10
  go_wp2_with fail
  refine (CO.out).mono ?_
  rintro e W ⟨vc, rfl, hoc, hb⟩
  obtain ⟨g, cap, rfl, hgB, hcap, hB⟩ : ∃ g cap, vc = .slice (some ⟨g, 0, none⟩) cs.length cap ∧ w.heap.size ≤ g ∧ cs.length ≤ cap ∧ Bo W g (ccs cs) := by
    rcases hoc.form with ⟨_, e⟩ | e
    · rw [e] at h0; cases h0
    · exact e
  replace hM := hid (hM.out.laterB hb hgB hB)
  have HCAP : Hid (cs.length ≤ cap) := hcap
  have H0 : Hid (0 < cs.length) := h0
  clear hoc hb hgB hB hcap h0
  have mk := mkby g m hm
  obtain ⟨bb, hbb⟩ : ∃ q, q = W.heap.size := ⟨_, rfl⟩
  replace hM := hid (hM.out.born (byr g (List.replicate m none)) 115 hbb)
  have HBB : Hid _ := hbb
  clear hbb
  go_wp2_with fail
  clear mk
  rw [← HBB.out]
  generalize World.alloc _ _ = W at hM ⊢
  refine (giveA_some hM.out (Y := ⟨Or.inr ⟨cap, rfl, HCAP.out, List.mem_singleton.2 rfl⟩, GG.out, HE.out, HD.out, HN.out⟩) (List.mem_singleton.2 rfl) HCAP.out HEC.out EA.out).mono ?_
  rintro e W ⟨rfl, hM⟩
  have hM := hid hM
  go_wp2_with fail
  refine (giveO_some hM.out (Y := ⟨Or.inr ⟨cap, rfl, HCAP.out, List.mem_singleton.2 rfl⟩, GG.out, HE.out, HD.out, HN.out⟩) (List.mem_singleton.2 rfl) HCAP.out HEC.out HDC.out HLN.out HW.out EO.out).mono ?_
  rintro e W ⟨rfl, hM⟩
  have hM := hid hM
  go_wp2_with fail
  have hbbl := (hM.out.at 0 rfl).lt
  have IO := inOrder_is (b := bb) (m := m) (cap := m) (g := g) (N := cs.length) (A := fun k => (cg cs k).1) (Z := fun k => zp (cg cs k).2) (u := uof s.1) (w := W) HN.out.2 HU.out hbbl (Or.inl (hM.out.at 1 rfl).lt) (fun j hj => by
    obtain ⟨k, hk⟩ := HALL.out j hj
    rw [uof_of hk]
    exact hM.out.cell 0 j rfl (byr_get hk)) (fun k hk => by
    have hc : cs[k]? = some (cs[k]) := List.getElem?_eq_getElem hk
    rw [show cg cs k = cs[k] from cg_of hc]
    exact ⟨hM.out.cell 1 (k * 2) rfl (ccs_get cs k _ hc).1, hM.out.cell 1 (k * 2 + 1) rfl (ccs_get cs k _ hc).2⟩)
  refine IO.mono ?_
  rintro e W ⟨rfl, hb⟩
  replace hM := hid (hM.out.later hb)
  clear hb IO hbbl
  have hr : Hid ((if (ost (fun k => (cg cs k).1) (fun k => zp (cg cs k).2) (fun x => uof s.1 (m - 1 - x)) (List.range m)).1 then (Value.nilIface) else .iface 24 (.int .i64 6)) = ordV (ordB cs s.1 m)) := rfl
  generalize (if (ost (fun k => (cg cs k).1) (fun k => zp (cg cs k).2) (fun x => uof s.1 (m - 1 - x)) (List.range m)).1 then (Value.nilIface) else .iface 24 (.int .i64 6)) = r at hr ⊢
  go_wp2
  go_ret
  exact ⟨congrArg Ending.returned hr.out, hM.out.below⟩
set_option maxHeartbeats 8000000 in
theorem fits_end0 {vea vda : Option Addr} {vec vdc n m : Nat} {h : Nat → EV} {q : Nat → DD} {cs : List CC} {bl : List (Option Nat)} {s : BU} (h0 : 0 < cs.length) (hm0 : m = 0) (ea : ansF h q m cs cs.length = .ok bl) (eo : opnF h q cs bl m = .ok s) (w : World) (E : Ev w (.slice vea n vec) n h) (D : Dq w (.slice vda m vdc) m q) (hn : n ≤ 1000000) (hm : m ≤ 1000000) (hwt : ∀ i, i < m → (Lit.int .i64 (q i).t).wf = true) (hcs : callsF h n = some cs) :
    Calls Tryd.prog 10 #[.slice vea n vec, .slice vda m vdc] w (Ret w (ordV (ordB cs s.1 m))) := by
  have CO : Hid _ := hid (callsOf_yes E hn hcs)
  have GG : Hid (GC h n cs) := GC.of hcs
  have HE : Hid _ := hid E
  have HD : Hid _ := hid D
  have HW : Hid _ := hwt
  have HN : Hid (n ≤ 1000000 ∧ m ≤ 1000000) := ⟨hn, hm⟩
  clear E D hwt hcs
  have HLN : Hid (bl.length = m) := ansF_len ea
  have hall := opnF_all (by rw [HLN.out]; exact Nat.le_refl _) eo
  have hlt := opnF_lt (ansF_lt (Nat.le_refl _) ea) (by rw [HLN.out]; exact Nat.le_refl _) eo
  have HALL : Hid (∀ j, j < m → ∃ k, s.1[j]? = some (some k)) := hall
  have HU : Hid (∀ j, j < m → uof s.1 j < cs.length) := fun j hj => by obtain ⟨k, hk⟩ := hall j hj; rw [uof_of hk]; exact hlt j k hk
  clear hall hlt
  have EA : Hid _ := ea
  have EO : Hid _ := eo
  clear ea eo
  obtain ⟨eb, eof, rfl, hec⟩ := HE.out.some (by have := GG.out.len; omega)
  have HEC : Hid (n ≤ vec) := hec
  clear hec
  subst hm0
  have hM : Hid _ := (Ms.nil w)
  go_enter Tryd.func10, Tryd.ntmps10
  go_wp2_with fail
  refine (CO.out).mono ?_
  rintro e W ⟨vc, rfl, hoc, hb⟩
  obtain ⟨g, cap, rfl, hgB, hcap, hB⟩ : ∃ g cap, vc = .slice (some ⟨g, 0, none⟩) cs.length cap ∧ w.heap.size ≤ g ∧ cs.length ≤ cap ∧ Bo W g (ccs cs) := by
    rcases hoc.form with ⟨_, e⟩ | e
    · rw [e] at h0; cases h0
    · exact e
  replace hM := hid (hM.out.laterB hb hgB hB)
  have HCAP : Hid (cs.length ≤ cap) := hcap
  have H0 : Hid (0 < cs.length) := h0
  clear hoc hb hgB hB hcap h0
  have mk : ∀ w : World, (Instr.makeSlice 79 (.int .i64 0) (.int .i64 0)).run Tryd.prog w = .ok (.slice (some ⟨w.heap.size, 0, none⟩) 0 0) (w.alloc (.cells (byr g []).toArray 115)) := mkby g 0 (by decide)
  obtain ⟨bb, hbb⟩ : ∃ q, q = W.heap.size := ⟨_, rfl⟩
  replace hM := hid (hM.out.born (byr g []) 115 hbb)
  have HBB : Hid _ := hbb
  clear hbb
  go_wp2_with fail
  clear mk
  rw [← HBB.out]
  generalize World.alloc _ _ = W at hM ⊢
  refine (giveA_some hM.out (Y := ⟨Or.inr ⟨cap, rfl, HCAP.out, List.mem_singleton.2 rfl⟩, GG.out, HE.out, HD.out, HN.out⟩) (List.mem_singleton.2 rfl) HCAP.out HEC.out EA.out).mono ?_
  rintro e W ⟨rfl, hM⟩
  have hM := hid hM
  go_wp2_with fail
  refine (giveO_m0 (fin := s) hM.out (Y := ⟨Or.inr ⟨cap, rfl, HCAP.out, List.mem_singleton.2 rfl⟩, GG.out, HE.out, HD.out, HN.out⟩) (List.mem_singleton.2 rfl) HCAP.out HEC.out).mono ?_
  rintro e W ⟨rfl, hM⟩
  have hM := hid hM
  obtain rfl : s = (bl, []) := by have h := EO.out; injection h with h; exact h.symm
  go_wp2_with fail
  have hbbl := (hM.out.at 0 rfl).lt
  have IO := inOrder_is (b := bb) (m := 0) (cap := 0) (g := g) (N := cs.length) (A := fun k => (cg cs k).1) (Z := fun k => zp (cg cs k).2) (u := uof bl) (w := W) HN.out.2 HU.out hbbl (Or.inl (hM.out.at 1 rfl).lt) (fun j hj => by
    obtain ⟨k, hk⟩ := HALL.out j hj
    rw [uof_of hk]
    exact hM.out.cell 0 j rfl (byr_get hk)) (fun k hk => by
    have hc : cs[k]? = some (cs[k]) := List.getElem?_eq_getElem hk
    rw [show cg cs k = cs[k] from cg_of hc]
    exact ⟨hM.out.cell 1 (k * 2) rfl (ccs_get cs k _ hc).1, hM.out.cell 1 (k * 2 + 1) rfl (ccs_get cs k _ hc).2⟩)
  refine IO.mono ?_
  rintro e W ⟨rfl, hb⟩
  replace hM := hid (hM.out.later hb)
  clear hb IO hbbl
  have hr : Hid ((if (ost (fun k => (cg cs k).1) (fun k => zp (cg cs k).2) (fun x => uof bl (0 - 1 - x)) (List.range 0)).1 then (Value.nilIface) else .iface 24 (.int .i64 6)) = ordV (ordB cs bl 0)) := rfl
  generalize (if (ost (fun k => (cg cs k).1) (fun k => zp (cg cs k).2) (fun x => uof bl (0 - 1 - x)) (List.range 0)).1 then (Value.nilIface) else .iface 24 (.int .i64 6)) = r at hr ⊢
  go_wp2
  go_ret
  exact ⟨congrArg Ending.returned hr.out, hM.out.below⟩
set_option maxHeartbeats 4000000 in
theorem fits_nil0 {vea vda : Option Addr} {vec vdc n : Nat} {h : Nat → EV} {q : Nat → DD} (w : World) (E : Ev w (.slice vea n vec) n h) (D : Dq w (.slice vda 0 vdc) 0 q) (hn : n ≤ 1000000) (hcs : callsF h n = some []) :
    Calls Tryd.prog 10 #[.slice vea n vec, .slice vda 0 vdc] w (Ret w .nilIface) := by
  have CO : Hid _ := hid (callsOf_yes E hn hcs)
  have HD : Hid _ := hid D
  clear E D hcs hn
  have hM : Hid _ := (Ms.nil w)
  go_enter Tryd.func10, Tryd.ntmps10
  go_wp2_with fail
  refine (CO.out).mono ?_
  rintro e W ⟨vc, rfl, hoc, hb⟩
  replace hM := hid (hM.out.later hb)
  obtain ⟨va, vcp, rfl⟩ := hoc.len
  simp only [List.length_nil]
  clear hoc hb
  have mk : ∀ w : World, (Instr.makeSlice 79 (.int .i64 0) (.int .i64 0)).run Tryd.prog w = .ok (.slice (some ⟨w.heap.size, 0, none⟩) 0 0) (w.alloc (.cells (byr 0 []).toArray 115)) := mkby 0 0 (by decide)
  obtain ⟨bb, hbb⟩ : ∃ q, q = W.heap.size := ⟨_, rfl⟩
  replace hM := hid (hM.out.born (byr 0 []) 115 hbb)
  have HBB : Hid _ := hbb
  clear hbb
  go_wp2_with fail
  clear mk
  rw [← HBB.out]
  generalize World.alloc _ _ = W at hM ⊢
  refine (giveA_nil _ _ hM.out).mono ?_
  rintro e W ⟨rfl, hM⟩
  have hM := hid hM
  go_wp2_with fail
  refine (giveO_nn _ hM.out).mono ?_
  rintro e W ⟨rfl, hM⟩
  have hM := hid hM
  go_wp2_with fail
  have hbbl := (hM.out.at 0 rfl).lt
  have IO := inOrder_is (b := bb) (m := 0) (cap := 0) (g := 0) (N := 0) (A := fun _ => 0) (Z := fun _ => 0) (u := fun _ => 0) (w := W) (by decide) (fun j hj => absurd hj (Nat.not_lt_zero _)) hbbl (Or.inr rfl) (fun j hj => absurd hj (Nat.not_lt_zero _)) (fun k hk => absurd hk (Nat.not_lt_zero _))
  refine IO.mono ?_
  rintro e W ⟨rfl, hb⟩
  replace hM := hid (hM.out.later hb)
  clear hb IO hbbl
  go_wp2
  go_ret
  exact ⟨rfl, hM.out.below⟩
set_option maxHeartbeats 4000000 in
theorem fits_nils {vea vda : Option Addr} {vec vdc n m : Nat} {h : Nat → EV} {q : Nat → DD} (w : World) (E : Ev w (.slice vea n vec) n h) (D : Dq w (.slice vda m vdc) m q) (hn : n ≤ 1000000) (hm0 : 0 < m) (hm : m ≤ 1000000) (hwt : ∀ i, i < m → (Lit.int .i64 (q i).t).wf = true) (hcs : callsF h n = some []) :
    Calls Tryd.prog 10 #[.slice vea n vec, .slice vda m vdc] w (Ret w (errV 8)) := by
  have CO : Hid _ := hid (callsOf_yes E hn hcs)
  have HD : Hid _ := hid D
  have HW : Hid _ := hwt
  have HM : Hid (0 < m ∧ m ≤ 1000000) := ⟨hm0, hm⟩
  obtain ⟨db, dof, rfl, hdc⟩ := HD.out.some hm0
  have HDC : Hid (m ≤ vdc) := hdc
  clear hdc hm0 hwt
  clear E D hcs hn
  have hM : Hid _ := (Ms.nil w)
  go_enter Tryd.func10, Tryd.ntmps10
  go_wp2_with fail
  refine (CO.out).mono ?_
  rintro e W ⟨vc, rfl, hoc, hb⟩
  replace hM := hid (hM.out.later hb)
  obtain ⟨va, vcp, rfl⟩ := hoc.len
  simp only [List.length_nil]
  clear hoc hb
  have mk := mkby 0 m hm
  obtain ⟨bb, hbb⟩ : ∃ q, q = W.heap.size := ⟨_, rfl⟩
  replace hM := hid (hM.out.born (byr 0 (List.replicate m none)) 115 hbb)
  have HBB : Hid _ := hbb
  clear hbb
  go_wp2_with fail
  clear mk
  rw [← HBB.out]
  generalize World.alloc _ _ = W at hM ⊢
  refine (giveA_nil _ _ hM.out).mono ?_
  rintro e W ⟨rfl, hM⟩
  have hM := hid hM
  go_wp2_with fail
  refine (giveO_ns _ hM.out HD.out HM.out.1 HM.out.2 HDC.out (by rw [List.getElem?_replicate, if_pos HM.out.1]) (HW.out 0 HM.out.1)).mono ?_
  rintro e W ⟨rfl, bl2, hM⟩
  have hM := hid hM
  go_wp2
  go_ret
  exact ⟨rfl, hM.out.below⟩
end Go.Proofs.YtaipanjigindbaaDoor.Tab
namespace Go.Proofs.YtaipanjigindbaaDoor.Tab
set_option maxRecDepth 20000
open Go.RowKit
set_option linter.unusedVariables false

/-- What Do hands back: an object, an answer, no error. -/
def DidD (w : World) (d : Nat → Nat) (cc y : Int) (e : Ending) (w' : World) : Prop := e = .returned (.tuple #[.agg (wl d).toArray, .agg #[.int .i64 cc, .int .i64 y], .nilIface]) ∧ Below w.heap.size w w'
def Refd (w : World) (e : Ending) (w' : World) : Prop := e = .returned (.tuple #[.agg (wl wz).toArray, .agg #[.int .i64 0, .int .i64 0], .iface 24 (.int .i64 1)]) ∧ Below w.heap.size w w'
theorem opR_yes {o k v : Int} (h : Rt o k v) (w : World) : Calls Tryd.prog 35 #[.agg #[.int .i64 o, .int .i64 k, .int .i64 v]] w fun e w' => e = .returned (.bool true) ∧ Below w.heap.size w w' :=
  (opRight_is h w).mono fun e w' ⟨he, hw⟩ => ⟨he, hw ▸ new_below w _⟩
theorem opR_no {o k v : Int} (h : ¬ Rt o k v) (w : World) : Calls Tryd.prog 35 #[.agg #[.int .i64 o, .int .i64 k, .int .i64 v]] w fun e w' => e = .returned (.bool false) ∧ Below w.heap.size w w' :=
  (opRight_isnt h w).mono fun e w' ⟨he, hw⟩ => ⟨he, hw ▸ new_below w _⟩
set_option maxHeartbeats 4000000 in
theorem obDo_wrong {kind o k x : Int} {c : Nat → Nat} (hR : ¬ Rt o k x) (w : World) :
    Calls Tryd.prog 15 #[.int .i64 kind, .agg (wl c).toArray, .agg #[.int .i64 o, .int .i64 k, .int .i64 x]] w (Refd w) := by
  have OR : Hid (∀ w : World, _) := fun w => opR_no hR w
  clear hR
  have hM : Hid _ := (((((Ms.nil w).born (wl c) 31 (b := w.heap.size) rfl).born [.int .i64 o, .int .i64 k, .int .i64 x] 47 (b := w.heap.size + 1) (by simp)).bornR wz_all.symm 31 (b := w.heap.size + 2) (by simp)).born [.int .i64 0, .int .i64 0] 49 (b := w.heap.size + 3) (by simp))
  have c1 := hM.out.cell 2 0 rfl rfl
  have c2 := hM.out.cell 2 1 rfl rfl
  have c3 := hM.out.cell 2 2 rfl rfl
  go_enter Tryd.func15, Tryd.ntmps15
  go_wp2_with fail
  clear c1 c2 c3
  generalize World.alloc _ _ = W at hM ⊢
  generalize hsz : w.heap.size = n at hM ⊢
  clear hsz
  refine (OR.out _).mono ?_
  rintro e W ⟨rfl, hb⟩
  replace hM := hid (hM.out.later hb)
  clear hb
  go_wp2_with (first
    | (refine sR rfl (hM.out.at 1 rfl) rfl ((rwC wz).len (rwC wz)) (rwC wz) ?_
       replace hM := hid (hM.out.put 1 rfl (wl wz) ((rwC wz).len (rwC wz)))
       generalize World.setCells _ _ _ _ = W at hM ⊢)
    | (refine sR rfl (hM.out.at 0 rfl) rfl ((rwA 0 0).len (rwA 0 0)) (rwA 0 0) ?_
       replace hM := hid (hM.out.put 0 rfl [.int .i64 0, .int .i64 0] ((rwA 0 0).len (rwA 0 0)))
       generalize World.setCells _ _ _ _ = W at hM ⊢))
  exact bodyPost_ret (res2s Tryd.results15 (hM.out.at 1 rfl) (rwC wz) (hM.out.at 0 rfl) (rwA 0 0) (.iface 24 (.int .i64 1))) rfl ⟨rfl, hM.out.below⟩
set_option maxHeartbeats 4000000 in
theorem obDo_isnt {kind o k x : Int} {c : Nat → Nat} (hR : Rt o k x) (hO : ¬ isOb kind c) (w : World) :
    Calls Tryd.prog 15 #[.int .i64 kind, .agg (wl c).toArray, .agg #[.int .i64 o, .int .i64 k, .int .i64 x]] w (Refd w) := by
  have OR : Hid (∀ w : World, _) := fun w => opR_yes hR w
  have RR : Hid (∀ w : World, _) := fun w => obRight_is (v := false) ⟨fun h => absurd h (by decide), fun h => absurd h hO⟩ w
  clear hR hO
  have hM : Hid _ := (((((Ms.nil w).born (wl c) 31 (b := w.heap.size) rfl).born [.int .i64 o, .int .i64 k, .int .i64 x] 47 (b := w.heap.size + 1) (by simp)).bornR wz_all.symm 31 (b := w.heap.size + 2) (by simp)).born [.int .i64 0, .int .i64 0] 49 (b := w.heap.size + 3) (by simp))
  have c1 := hM.out.cell 2 0 rfl rfl
  have c2 := hM.out.cell 2 1 rfl rfl
  have c3 := hM.out.cell 2 2 rfl rfl
  go_enter Tryd.func15, Tryd.ntmps15
  go_wp2_with fail
  clear c1 c2 c3
  generalize World.alloc _ _ = W at hM ⊢
  generalize hsz : w.heap.size = n at hM ⊢
  clear hsz
  refine (OR.out _).mono ?_
  rintro e W ⟨rfl, hb⟩
  replace hM := hid (hM.out.later hb)
  clear hb
  go_wp2_with (first
    | (refine lW rfl (hM.out.at 3 rfl) rfl (rwC c) ?_))
  refine (RR.out _).mono ?_
  rintro e W ⟨rfl, hb⟩
  replace hM := hid (hM.out.later hb)
  clear hb
  go_wp2_with (first
    | (refine sR rfl (hM.out.at 1 rfl) rfl ((rwC wz).len (rwC wz)) (rwC wz) ?_
       replace hM := hid (hM.out.put 1 rfl (wl wz) ((rwC wz).len (rwC wz)))
       generalize World.setCells _ _ _ _ = W at hM ⊢)
    | (refine sR rfl (hM.out.at 0 rfl) rfl ((rwA 0 0).len (rwA 0 0)) (rwA 0 0) ?_
       replace hM := hid (hM.out.put 0 rfl [.int .i64 0, .int .i64 0] ((rwA 0 0).len (rwA 0 0)))
       generalize World.setCells _ _ _ _ = W at hM ⊢))
  exact bodyPost_ret (res2s Tryd.results15 (hM.out.at 1 rfl) (rwC wz) (hM.out.at 0 rfl) (rwA 0 0) (.iface 24 (.int .i64 1))) rfl ⟨rfl, hM.out.below⟩
end Go.Proofs.YtaipanjigindbaaDoor.Tab
namespace Go.Proofs.YtaipanjigindbaaDoor.Tab
set_option maxRecDepth 20000
open Go.RowKit Go.Maps

def clos (b : Nat) : Value := .func (.func 71) #[] #[.pointer (some ⟨b, 0, none⟩)]
def fv (k : Nat) : Value := .func (.func k) #[] #[]
theorem withList_is (k : Nat) (w : World) : Calls Tryd.prog 51 #[fv k] w fun e w' => e = .returned (clos w.heap.size) ∧ Bo w' w.heap.size [fv k] ∧ Below w.heap.size w w' := by
  unfold fv clos
  go_enter Tryd.func51, Tryd.ntmps51
  go_wp2
  go_ret
  exact ⟨rfl, Bo.born w [.func (.func k) #[] #[]] _ rfl, new_below w _⟩

/-- The map in block m, its elements as they are. -/
def Rv (v : Value) : Option (DataW Value × List MemPlace) := some (.held v, [])
def Mp (w : World) (m n : Nat) (D : DataW Value) : Prop := w.ownsMap Tryd.prog 3 Rv m n D
theorem Mp.later {w w' : World} {m n : Nat} {D : DataW Value} (h : Mp w m n D) (hb : Below w.heap.size w w') : Mp w' m n D := by
  obtain ⟨es, clk, h1, h2⟩ := h
  exact ⟨es, clk, by rw [hb.block m (Array.getElem?_eq_some_iff.1 h1).1]; exact h1, h2⟩
theorem map_desc : Tryd.prog.underlying 98 = some (.map 3 97) := by kernel_rfl
theorem int_desc : Tryd.prog.underlying 3 = some (.int .i64) := by kernel_rfl
theorem zero_deed (w : World) : (zeroValue 97).run Tryd.prog w = .ok .nilFunc w := by kernel_rfl
theorem Mp.add {w : World} {m n : Nat} {D : DataW Value} (h : Mp w m n D) (hn : n ≤ 10) (k : Int) (h0 : 0 ≤ k) (hk : k ≤ 10) (v : Value) :
    ∃ w', (Instr.mapUpdate 98 (.map (some m)) (.int .i64 k) v).run Tryd.prog w = .ok () w' ∧ Mp w' m (n + 1) (D.put (.int .i64 k) (.held v)) ∧ w.grownBy w' (some m) :=
  World.ownsMap.update h (int_keyed int_desc) map_desc (by unfold maxLen; omega) (keyOf_int_mk int_desc (a := k) (WalkArith.wf_i64 (by omega))) rfl
theorem Mp.look {w : World} {m n : Nat} {D : DataW Value} (h : Mp w m n D) (k : Int) (h0 : 0 ≤ k) (hk : k ≤ 10) {v : Value} (hv : D.atKey (.int .i64 k) (.held .nilFunc) = .held v) :
    (Instr.lookup 98 (.map (some m)) (.int .i64 k) false).run Tryd.prog w = .ok v w := by
  obtain ⟨u, ps, h1, h2⟩ := World.ownsMap.lookup h (int_keyed int_desc) map_desc (zero_deed w) (zd := .held .nilFunc) (zp := []) rfl (keyOf_int_mk int_desc (a := k) (WalkArith.wf_i64 (by omega)))
  unfold Rv at h2
  rw [hv] at h2
  injection h2 with h2
  injection h2 with h2 _
  injection h2 with h2
  rw [h1, h2]
theorem Bo.grown {w w' : World} {b : Nat} {cs : List Value} {m : Nat} (h : Bo w b cs) (hg : w.grownBy w' (some m)) (hne : b ≠ m) : Bo w' b cs :=
  h.keep (hg.block b h.lt (fun e => hne (by injection e))) (Nat.lt_of_lt_of_le h.lt hg.size)
theorem Gd.grown {n : Nat} {w a b : World} {m : Nat} (h : Gd n w a) (hg : a.grownBy b (some m)) (hm : n ≤ m) : Gd n w b :=
  ⟨h.1, h.2.grown hg h.2.size (fun k hk => by injection hk with hk; have := h.1; omega)⟩

/-- All deeds, by kinds: each list's function lies in a block of its own. -/
def deedsD (b1 b2 b3 b4 : Nat) : DataW Value :=
  ((((((DataW.map []).put (.int .i64 1) (.held (clos b1))).put (.int .i64 2) (.held (clos b2))).put (.int .i64 3) (.held (clos b3))).put (.int .i64 4) (.held (clos b4))).put (.int .i64 5) (.held (fv 56))).put (.int .i64 6) (.held (fv 57))
theorem deeds_1 (b1 b2 b3 b4 : Nat) : (deedsD b1 b2 b3 b4).atKey (.int .i64 1) (.held .nilFunc) = .held (clos b1) := rfl
theorem deeds_2 (b1 b2 b3 b4 : Nat) : (deedsD b1 b2 b3 b4).atKey (.int .i64 2) (.held .nilFunc) = .held (clos b2) := rfl
theorem deeds_3 (b1 b2 b3 b4 : Nat) : (deedsD b1 b2 b3 b4).atKey (.int .i64 3) (.held .nilFunc) = .held (clos b3) := rfl
theorem deeds_4 (b1 b2 b3 b4 : Nat) : (deedsD b1 b2 b3 b4).atKey (.int .i64 4) (.held .nilFunc) = .held (clos b4) := rfl
theorem deeds_5 (b1 b2 b3 b4 : Nat) : (deedsD b1 b2 b3 b4).atKey (.int .i64 5) (.held .nilFunc) = .held (fv 56) := rfl
theorem deeds_6 (b1 b2 b3 b4 : Nat) : (deedsD b1 b2 b3 b4).atKey (.int .i64 6) (.held .nilFunc) = .held (fv 57) := rfl
structure Deeds (w : World) (m b1 b2 b3 b4 : Nat) : Prop where
  mp : Mp w m 6 (deedsD b1 b2 b3 b4)
  q : Bo w b1 [fv 52]
  s : Bo w b2 [fv 53]
  d : Bo w b3 [fv 54]
  h : Bo w b4 [fv 55]

set_option maxHeartbeats 2000000 in
theorem deeds_is (w : World) : Calls Tryd.prog 36 #[] w fun e w' => e = .returned (.map (some w.heap.size)) ∧ (∃ b1 b2 b3 b4, Deeds w' w.heap.size b1 b2 b3 b4) ∧ Below w.heap.size w w' := by
  have hmm := @run_makeMap Tryd.prog
  have M : Hid (Mp (w.alloc (.map #[] 0)) w.heap.size 0 (.map [])) := World.ownsMap_made _ _ _ _
  have G : Hid (Gd w.heap.size w (w.alloc (.map #[] 0))) := (Gd.refl w).new _
  have l0 : w.heap.size < (w.alloc (.map #[] 0)).heap.size := by simp
  go_enter Tryd.func36, Tryd.ntmps36
  go_wp2_with fail
  generalize w.alloc (.map #[] 0) = W at M G l0 ⊢
  generalize hsz : w.heap.size = n at M G l0 ⊢
  have HSZ : Hid (w.heap.size = n) := hsz
  clear hsz
  refine (withList_is 52 W).mono ?_
  rintro e w1 ⟨rfl, q1, hb⟩
  have q1 : Hid _ := q1
  have G1 : Hid (Gd n w w1) := G.out.later hb
  have l1 : n < w1.heap.size := Nat.lt_of_lt_of_le l0 hb.size
  generalize W.heap.size = b1 at q1 l0 ⊢
  obtain ⟨w2, r1, m2, g2⟩ := Mp.add (Mp.later M.out hb) (by decide) 1 (by decide) (by decide) (clos b1)
  have Q : Hid (Bo w2 b1 [fv 52]) := q1.out.grown g2 (by omega)
  have G2 : Hid (Gd n w w2) := G1.out.grown g2 (Nat.le_refl _)
  have M2 : Hid _ := m2
  have l2 : n < w2.heap.size := Nat.lt_of_lt_of_le l1 g2.size
  have e1 : b1 ≠ n := by omega
  clear hb g2 m2 M G G1 q1 l0 l1
  go_wp2_with fail
  clear r1
  refine (withList_is 53 w2).mono ?_
  rintro e w3 ⟨rfl, q1, hb⟩
  have q1 : Hid _ := q1
  have G1 : Hid (Gd n w w3) := G2.out.later hb
  have Q1 : Hid (Bo w3 b1 [fv 52]) := Q.out.later hb
  have l1 : n < w3.heap.size := Nat.lt_of_lt_of_le l2 hb.size
  have M1 : Hid _ := Mp.later M2.out hb
  generalize w2.heap.size = b2 at q1 l2 ⊢
  obtain ⟨w4, r1, m2, g2⟩ := Mp.add M1.out (by decide) 2 (by decide) (by decide) (clos b2)
  have e2 : b2 ≠ n := by omega
  have S : Hid (Bo w4 b2 [fv 53]) := q1.out.grown g2 e2
  have Q4 : Hid (Bo w4 b1 [fv 52]) := Q1.out.grown g2 e1
  have G4 : Hid (Gd n w w4) := G1.out.grown g2 (Nat.le_refl _)
  have M4 : Hid _ := m2
  have l4 : n < w4.heap.size := Nat.lt_of_lt_of_le l1 g2.size
  clear hb g2 m2 M2 M1 G1 G2 q1 Q Q1 l1 l2
  go_wp2_with fail
  clear r1
  refine (withList_is 54 w4).mono ?_
  rintro e w5 ⟨rfl, q1, hb⟩
  have q1 : Hid _ := q1
  have G1 : Hid (Gd n w w5) := G4.out.later hb
  have Q1 : Hid (Bo w5 b1 [fv 52]) := Q4.out.later hb
  have S1 : Hid (Bo w5 b2 [fv 53]) := S.out.later hb
  have l1 : n < w5.heap.size := Nat.lt_of_lt_of_le l4 hb.size
  have M1 : Hid _ := Mp.later M4.out hb
  generalize w4.heap.size = b3 at q1 l4 ⊢
  obtain ⟨w6, r1, m2, g2⟩ := Mp.add M1.out (by decide) 3 (by decide) (by decide) (clos b3)
  have e3 : b3 ≠ n := by omega
  have D : Hid (Bo w6 b3 [fv 54]) := q1.out.grown g2 e3
  have Q6 : Hid (Bo w6 b1 [fv 52]) := Q1.out.grown g2 e1
  have S6 : Hid (Bo w6 b2 [fv 53]) := S1.out.grown g2 e2
  have G6 : Hid (Gd n w w6) := G1.out.grown g2 (Nat.le_refl _)
  have M6 : Hid _ := m2
  have l6 : n < w6.heap.size := Nat.lt_of_lt_of_le l1 g2.size
  clear hb g2 m2 M4 M1 G1 G4 q1 Q4 Q1 S S1 l1 l4
  go_wp2_with fail
  clear r1
  refine (withList_is 55 w6).mono ?_
  rintro e w7 ⟨rfl, q1, hb⟩
  have q1 : Hid _ := q1
  have G1 : Hid (Gd n w w7) := G6.out.later hb
  have Q1 : Hid (Bo w7 b1 [fv 52]) := Q6.out.later hb
  have S1 : Hid (Bo w7 b2 [fv 53]) := S6.out.later hb
  have D1 : Hid (Bo w7 b3 [fv 54]) := D.out.later hb
  have M1 : Hid _ := Mp.later M6.out hb
  generalize w6.heap.size = b4 at q1 l6 ⊢
  obtain ⟨w8, r1, m2, g2⟩ := Mp.add M1.out (by decide) 4 (by decide) (by decide) (clos b4)
  have e4 : b4 ≠ n := by omega
  have H8 : Hid (Bo w8 b4 [fv 55]) := q1.out.grown g2 e4
  have D8 : Hid (Bo w8 b3 [fv 54]) := D1.out.grown g2 e3
  have Q8 : Hid (Bo w8 b1 [fv 52]) := Q1.out.grown g2 e1
  have S8 : Hid (Bo w8 b2 [fv 53]) := S1.out.grown g2 e2
  have G8 : Hid (Gd n w w8) := G1.out.grown g2 (Nat.le_refl _)
  have M8 : Hid _ := m2
  clear hb g2 m2 M6 M1 G1 G6 q1 Q6 Q1 S6 S1 D D1 l6
  obtain ⟨w9, r2, m9, g9⟩ := Mp.add M8.out (by decide) 5 (by decide) (by decide) (fv 56)
  obtain ⟨wx, r3, mx, gx⟩ := Mp.add m9 (by decide) 6 (by decide) (by decide) (fv 57)
  have FIN : Hid (Deeds wx n b1 b2 b3 b4 ∧ Gd n w wx) := ⟨⟨mx, (Q8.out.grown g9 e1).grown gx e1, (S8.out.grown g9 e2).grown gx e2, (D8.out.grown g9 e3).grown gx e3, (H8.out.grown g9 e4).grown gx e4⟩, (G8.out.grown g9 (Nat.le_refl _)).grown gx (Nat.le_refl _)⟩
  clear m9 g9 mx gx M8 G8 Q8 S8 D8 H8
  unfold fv at r2 r3
  go_wp2
  go_ret
  exact ⟨by rw [HSZ.out]; rfl, by rw [HSZ.out]; exact ⟨b1, b2, b3, b4, FIN.out.1⟩, FIN.out.2.2⟩
end Go.Proofs.YtaipanjigindbaaDoor.Tab
namespace Go.Proofs.YtaipanjigindbaaDoor.Tab
set_option maxRecDepth 20000
open Go.RowKit
theorem Deeds.later {w w' : World} {m b1 b2 b3 b4 : Nat} (h : Deeds w m b1 b2 b3 b4) (hb : Below w.heap.size w w') : Deeds w' m b1 b2 b3 b4 :=
  ⟨h.mp.later hb, h.q.later hb, h.s.later hb, h.d.later hb, h.h.later hb⟩
theorem Deeds.new {w : World} {m b1 b2 b3 b4 : Nat} (h : Deeds w m b1 b2 b3 b4) (o : Obj) : Deeds (w.alloc o) m b1 b2 b3 b4 := h.later (new_below w o)
end Go.Proofs.YtaipanjigindbaaDoor.Tab
