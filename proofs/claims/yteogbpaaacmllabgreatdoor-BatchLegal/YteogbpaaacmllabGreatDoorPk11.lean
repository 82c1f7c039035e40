/- Texts laid together: Package judge: callsOf, by its contracts; Package judge: Fits, by its contracts; Package judge: Legal, by its contracts; errors.As at an error at a place, by its contract; An error taken apart, at a place; the law placed, by its contracts. -/
import Derived.Test.YteogbpaaacmllabGreatDoorPk09
import Derived.Test.YteogbpaaacmllabGreatDoorPk07
import Derived.Test.YteogbpaaacmllabGreatDoorPk03
import Derived.Deep.DeepCutAuto
import Derived.Deep.RegionHeld3
import Derived.Test.YteogbpaaacmllabGreatDoorPk10
import Derived.Test.YteogbpaaacmllabGreatDoorPk06
namespace Go.Proofs.YteogbpaaacmllabGreatDoor.Tab
set_option maxRecDepth 20000
open Go.RowKit
set_option linter.unusedVariables false

/-- What callsOf answers. -/
def CallsY (w : World) (cs : List CC) (e : Ending) (w' : World) : Prop := ∃ v, e = .returned (.tuple #[v, .nilIface]) ∧ Oc w.heap.size w' v cs ∧ Below w.heap.size w w'
def CallsN (w : World) (m : Nat) (e : Ending) (w' : World) : Prop := ∃ b, e = .returned (.tuple #[.slice none 0 0, atV b]) ∧ w.heap.size ≤ b ∧ Bo w' b [.int .i64 10, .int .i64 (m : Nat)] ∧ Below w.heap.size w w'
theorem mapi_desc : Tryz.prog.underlying 118 = some (.map 3 3) := by kernel_rfl
theorem zero_int (w : World) : (zeroValue 3).run Tryz.prog w = .ok (.int .i64 0) w := by kernel_rfl
def mfn (h : Nat → EV) (cs : List CC) (t : Int) : Option Value := (opn h cs t).map fun k => .int .i64 (k : Nat)
theorem mfn_some {h : Nat → EV} {cs : List CC} {t : Int} {k : Nat} (e : opn h cs t = some k) : mfn h cs t = some (.int .i64 (k : Nat)) := by unfold mfn; rw [e]; rfl
theorem mfn_none {h : Nat → EV} {cs : List CC} {t : Int} (e : opn h cs t = none) : mfn h cs t = none := by unfold mfn; rw [e]; rfl
theorem Imp.any {W : World} {m n : Nat} {h : Nat → EV} {cs : List CC} (H : Imp W m n (mfn h cs)) {t : Int} (ht : (Lit.int .i64 t).wf = true) : ∃ (u : Int) (b : Bool), (Instr.lookup 118 (.map (some m)) (.int .i64 t) true).run Tryz.prog W = .ok (.tuple #[.int .i64 u, .bool b]) W := by
  cases e : opn h cs t with
  | none => exact ⟨0, false, H.miss mapi_desc zero_int ht (mfn_none e)⟩
  | some k => exact ⟨k, true, H.look mapi_desc zero_int ht (mfn_some e)⟩
set_option maxHeartbeats 2000000 in
theorem callsOf_nil  (w : World) :
    Calls Tryz.prog 39 #[.slice none 0 0] w (CallsY w []) := by
  have hmm := @run_makeMap Tryz.prog
  have hM : Hid _ := hid ((Ms.nil w).bornM rfl)
  go_enter Tryz.func39, Tryz.ntmps39
  go_wp2_with fail
  clear hmm
  generalize World.alloc _ _ = W at hM ⊢
  go_loopg [4, 13] 0 (fun gg s4 s13 wt => wt = W ∧ s4 = .slice none 0 0 ∧ s13 = .int .i64 0)
  case atStart => exact ⟨rfl, rfl, rfl⟩
  case round =>
    obtain ⟨hw, rfl, rfl⟩ := hrel
    rw [hw]; clear hw wr
    go_wp2
    go_ret2
    exact ⟨.slice none 0 0, rfl, Oc.nil _ _, hM.out.below⟩
set_option maxHeartbeats 2000000 in
theorem callsOf_none  (a : Addr) (c : Nat) (w : World) :
    Calls Tryz.prog 39 #[.slice (some a) 0 c] w (CallsY w []) := by
  have hmm := @run_makeMap Tryz.prog
  have hM : Hid _ := hid ((Ms.nil w).bornM rfl)
  go_enter Tryz.func39, Tryz.ntmps39
  go_wp2_with fail
  clear hmm
  generalize World.alloc _ _ = W at hM ⊢
  go_loopg [4, 13] 0 (fun gg s4 s13 wt => wt = W ∧ s4 = .slice none 0 0 ∧ s13 = .int .i64 0)
  case atStart => exact ⟨rfl, rfl, rfl⟩
  case round =>
    obtain ⟨hw, rfl, rfl⟩ := hrel
    rw [hw]; clear hw wr
    go_wp2
    go_ret2
    exact ⟨.slice none 0 0, rfl, Oc.nil _ _, hM.out.below⟩
set_option maxHeartbeats 16000000 in
theorem callsOf_some {b off c n : Nat} {h : Nat → EV} {fin : List CC} (h0 : 0 < n) (hc : n ≤ c) (hn : n ≤ 1000000) (hO : callsF h n = some fin) (w : World) (E : Ev w (.slice (some ⟨b, off, none⟩) n c) n h) :
    Calls Tryz.prog 39 #[.slice (some ⟨b, off, none⟩) n c] w (CallsY w fin) := by
  have HE : Hid _ := hid E.all
  clear E
  have HF : Hid _ := hO
  clear hO
  have HC : Hid (n ≤ c ∧ n ≤ 1000000) := ⟨hc, hn⟩
  clear hc hn h0
  have hmm := @run_makeMap Tryz.prog
  have hM : Hid _ := hid ((Ms.nil w).bornM rfl)
  have hS : Hid (Imp _ w.heap.size 0 _) := Imp.made w
  go_enter Tryz.func39, Tryz.ntmps39
  go_wp2_with fail
  clear hmm
  have hsz1 : Hid ((w.alloc (.map #[] 0)).heap.size = w.heap.size + 1) := hid (by simp)
  generalize World.alloc _ _ = W at hM hS hsz1 ⊢
  generalize hsz : w.heap.size = n0 at hM hS hsz1 ⊢
  have HSZ : Hid _ := hsz
  clear hsz
  go_loopg [4, 13] n (fun gg s4 s13 wt => ∃ (i : Nat) (cs : List CC), i ≤ n ∧ n - i ≤ gg ∧ s13 = .int .i64 i ∧ Hid (callsF h i = some cs) ∧ Hid (Oc (n0 + 1) wt s4 cs) ∧ Hid (Imp wt n0 i (mfn h cs)) ∧ Hid (n0 + 1 ≤ wt.heap.size) ∧ Hid (Ms n0 w wt [(n0, [])] []))
  case atStart => exact ⟨0, [], by omega, by omega, rfl, hid rfl, Oc.nil _ _, hS, hid (Nat.le_of_eq hsz1.out.symm), hM⟩
  case round =>
    clear hM hS hsz1
    obtain ⟨i, cs, hi, hgg, rfl, CF, hO, hS, HZ, hM⟩ := hrel
    obtain ⟨W, rfl⟩ : ∃ q, q = wr := ⟨_, rfl⟩
    have GG : Hid (GC h i cs) := GC.of CF.out
    by_cases hlt : i < n
    · have hi1 : (i : Int) < (n : Int) := by omega
      have hi0 : (0 : Int) ≤ (i : Int) := by omega
      have hrow := (HE.out W hM.out.below i (by omega)).1
      have hwf := (HE.out W hM.out.below i (by omega)).2
      obtain ⟨⟨kd, th, o, k, x, cc, y, wh, st⟩, he⟩ : ∃ e, h i = e := ⟨_, rfl⟩
      obtain ⟨ds, hst, hcf⟩ := callsF_next HF.out hlt CF.out
      have CF2 : Hid _ := hcf
      clear hcf
      rcases stepC_some hst with ⟨h3, hd⟩ | ⟨h1, hop, hd⟩ | ⟨kk, a, h2, hop, hk, heq, hd⟩
      · subst hd
        rw [he] at h3 hrow hwf
        replace h3 : kd = 3 := h3
        subst kd
        replace hwf : (Lit.int .i64 th).wf = true := hwf
        have HW : Hid _ := hwf
        clear hst hwf he
        have RA : Hid (W.rangeAt b (off + i * 9) (el 3 th o k x cc y wh st)) := hrow
        clear hrow
        obtain ⟨be, hbe⟩ : ∃ q, q = W.heap.size := ⟨_, rfl⟩
        have hOl : Hid (∀ gz, (u4).ownBlock = some gz → gz ≠ be) := fun gz hg => by have := (hO.out.lt gz hg).2; omega
        have HBE : Hid _ := hbe
        clear hbe
        go_wp2_with (first
          | (refine lO rfl RA.out rfl (rwEv 3 th o k x cc y wh st) ?_; clear RA)
          | (rw [← HBE.out]
             replace hS := hid (hS.out.new (.cells [.int .i64 0, .int .i64 0, .int .i64 0, .int .i64 0, .int .i64 0, .int .i64 0, .int .i64 0, .int .i64 0, .int .i64 0].toArray 56))
             replace hO := hid (hO.out.new (.cells [.int .i64 0, .int .i64 0, .int .i64 0, .int .i64 0, .int .i64 0, .int .i64 0, .int .i64 0, .int .i64 0, .int .i64 0].toArray 56))
             replace hM := hid (hM.out.born [.int .i64 0, .int .i64 0, .int .i64 0, .int .i64 0, .int .i64 0, .int .i64 0, .int .i64 0, .int .i64 0, .int .i64 0] 56 HBE.out)
             refine sR rfl (hM.out.at 0 rfl) rfl ((rwEv 0 0 0 0 0 0 0 0 0).len (rwEv 3 th o k x cc y wh st)) (rwEv 3 th o k x cc y wh st) ?_
             replace hS := hid (hS.out.asideL (hM.out.ne 1 0 rfl rfl (by decide)) 0 (el 3 th o k x cc y wh st))
             replace hO := hid (hO.out.asideL hOl.out 0 (el 3 th o k x cc y wh st))
             replace hM := hid (hM.out.put 0 rfl (el 3 th o k x cc y wh st) ((rwEv 0 0 0 0 0 0 0 0 0).len (rwEv 3 th o k x cc y wh st)))
             generalize World.setCells _ _ _ _ = W at hM hS hO ⊢
             clear HBE
             obtain ⟨uu, ub, lk⟩ := hS.out.any HW.out
             have LK : Hid _ := lk
             clear lk
             have c1 := hM.out.cell 0 0 rfl rfl
             have c2 := hM.out.cell 0 1 rfl rfl)
          | (at_lookup
             refine wpList_look rfl _ _ _ rfl rfl rfl LK.out ?_))
        clear c1 c2
        go_roundg (n - (i + 1))
        case measure => omega
        case rel => exact ⟨i + 1, ds, by omega, by omega, by have := HC.out; have hw : wrap64 ((i : Int) + 1) = ((i + 1 : Nat) : Int) := (by unfold wrap64; omega); rw [hw], CF2, hO, hS.out.mono (by omega), hid (hM.out.sz1), hM.out.pick [1]⟩
      · rw [he] at h1 hop hrow hwf
        replace h1 : kd = 1 := h1
        subst kd
        replace hwf : (Lit.int .i64 th).wf = true := hwf
        replace hop : opn h cs th = none := hop
        have HW : Hid _ := hwf
        have HOP : Hid _ := hop
        have MF : Hid (∀ t, mfn h ds t = if t = th then some (.int .i64 (cs.length : Nat)) else mfn h cs t) := fun t => by
          have := opn_ask GG.out (by rw [he]; exact hop) t
          rw [he] at this
          unfold mfn
          rw [hd, this]
          by_cases e : t = th
          · rw [if_pos e, if_pos e]; rfl
          · rw [if_neg e, if_neg e]
        have DS : Hid _ := hd
        have HL : Hid (cs.length ≤ i) := GG.out.len
        clear hst hwf he hop hd
        obtain ⟨va, vcap, rfl⟩ := hO.out.len
        have RA : Hid (W.rangeAt b (off + i * 9) (el 1 th o k x cc y wh st)) := hrow
        clear hrow
        obtain ⟨be, hbe⟩ : ∃ q, q = W.heap.size := ⟨_, rfl⟩
        have hOl : Hid (∀ gz, (Value.slice va cs.length vcap).ownBlock = some gz → gz ≠ be) := fun gz hg => by have := (hO.out.lt gz hg).2; omega
        have HBE : Hid _ := hbe
        clear hbe
        go_wp2_with (first
          | (refine lO rfl RA.out rfl (rwEv 1 th o k x cc y wh st) ?_; clear RA)
          | (rw [← HBE.out]
             replace hS := hid (hS.out.new (.cells [.int .i64 0, .int .i64 0, .int .i64 0, .int .i64 0, .int .i64 0, .int .i64 0, .int .i64 0, .int .i64 0, .int .i64 0].toArray 56))
             replace hO := hid (hO.out.new (.cells [.int .i64 0, .int .i64 0, .int .i64 0, .int .i64 0, .int .i64 0, .int .i64 0, .int .i64 0, .int .i64 0, .int .i64 0].toArray 56))
             replace hM := hid (hM.out.born [.int .i64 0, .int .i64 0, .int .i64 0, .int .i64 0, .int .i64 0, .int .i64 0, .int .i64 0, .int .i64 0, .int .i64 0] 56 HBE.out)
             refine sR rfl (hM.out.at 0 rfl) rfl ((rwEv 0 0 0 0 0 0 0 0 0).len (rwEv 1 th o k x cc y wh st)) (rwEv 1 th o k x cc y wh st) ?_
             replace hS := hid (hS.out.asideL (hM.out.ne 1 0 rfl rfl (by decide)) 0 (el 1 th o k x cc y wh st))
             replace hO := hid (hO.out.asideL hOl.out 0 (el 1 th o k x cc y wh st))
             replace hM := hid (hM.out.put 0 rfl (el 1 th o k x cc y wh st) ((rwEv 0 0 0 0 0 0 0 0 0).len (rwEv 1 th o k x cc y wh st)))
             generalize World.setCells _ _ _ _ = W at hM hS hO ⊢
             clear HBE
             have LK : Hid _ := hS.out.miss mapi_desc zero_int HW.out (mfn_none HOP.out)
             have c1 := hM.out.cell 0 0 rfl rfl
             have c2 := hM.out.cell 0 1 rfl rfl
             obtain ⟨W2, up, hS2, ht⟩ := hS.out.add mapi_desc (by have := HC.out; unfold maxLen; omega) HW.out (.int .i64 (cs.length : Nat))
             have hS3 : Hid _ := hid (hS2.congr MF.out)
             have hO3 : Hid _ := hid (Oc.turned hO.out (show n0 < n0 + 1 by omega) ht)
             have HZ3 : Hid (n0 + 1 ≤ W2.heap.size) := Nat.le_trans hM.out.sz1 ht.grown.size
             have hM3 : Hid _ := hid ((hM.out.turned 1 rfl ht.grown (fun j => hS2.froz j)).pick [1])
             have UP : Hid _ := up
             clear hS2 ht up)
          | (at_lookup
             refine wpList_look rfl _ _ _ rfl rfl rfl LK.out ?_)
          | (at_mapUpdate
             refine wpList_mapUp rfl _ _ _ _ rfl rfl rfl rfl UP.out ?_)
          | (at_builtin
             refine wpList_push rfl rfl (.tmp 46) (.tmp 49) rfl rfl rfl (B := n0 + 1) (cs := cs) (nb := W2.heap.size) (i := i) (by have := HZ3.out; simp; omega) (hO3.out.new _) (by simp) (by simp) (by have := HL.out; have := HC.out; omega) ?_
             intro v9 w9 hO9 hb9
             have hO : Hid _ := hid hO9
             have hS : Hid _ := hid ((hS3.out.new _).laterA hb9 (by omega))
             have HZ9 : Hid _ := hid (Nat.le_trans HZ3.out (Nat.le_trans (by simp) hb9.size))
             have hM : Hid _ := hid ((hM3.out.new _).laterA hb9 ⟨by omega, by intro b hb; simp at hb; omega⟩)
             rw [← DS.out] at hO
             clear hO9 hb9))
        clear c1 c2
        go_roundg (n - (i + 1))
        case measure => omega
        case rel => exact ⟨i + 1, ds, by omega, by omega, by have := HC.out; have hw : wrap64 ((i : Int) + 1) = ((i + 1 : Nat) : Int) := (by unfold wrap64; omega); rw [hw], CF2, hO, hS, HZ9, hM⟩
      · rw [he] at h2 hop hrow hwf heq
        replace h2 : kd = 2 := h2
        subst kd
        replace hwf : (Lit.int .i64 th).wf = true := hwf
        replace hop : opn h cs th = some kk := hop
        have HW : Hid _ := hwf
        have HOP : Hid _ := hop
        have MF : Hid (∀ t, mfn h ds t = if t = th then none else mfn h cs t) := fun t => by
          have := opn_answer GG.out (by rw [he]; exact hop) t
          rw [cg_of hk, he] at this
          unfold mfn
          rw [hd, this]
          by_cases e : t = th
          · rw [if_pos e, if_pos e]; rfl
          · rw [if_neg e, if_neg e]
        have DS : Hid _ := hd
        clear hst hwf he hop hd
        have ha : a < i := (GG.out.lt _ (List.mem_of_getElem? hk)).1
        have hra := (HE.out W hM.out.below a (by omega)).1
        obtain ⟨⟨kd2, th2, o2, k2, x2, cc2, y2, wh2, st2⟩, he2⟩ : ∃ e, h a = e := ⟨_, rfl⟩
        rw [he2] at hra heq
        obtain ⟨rfl, rfl, rfl⟩ : o = o2 ∧ k = k2 ∧ x = x2 := by simpa [EV.op] using heq
        have EQ := fun w => op_eq o k x o k x true (by simp) w
        clear heq
        obtain ⟨g, cap, hv, hgB, hcap, hcs⟩ : ∃ g cap, u4 = .slice (some ⟨g, 0, none⟩) cs.length cap ∧ n0 + 1 ≤ g ∧ cs.length ≤ cap ∧ Bo W g (ccs cs) := by
          rcases hO.out.form with ⟨_, rfl⟩ | h
          · simp at hk
          · exact h
        subst hv
        have hkl : kk < cs.length := (List.getElem?_eq_some_iff.1 hk).1
        have CK : Hid _ := ccs_get cs kk _ hk
        have HK : Hid _ := hk
        have HG : Hid (n0 + 1 ≤ g) := hgB
        have hk1 : (kk : Int) < (cs.length : Int) := by omega
        have hk0 : (0 : Int) ≤ (kk : Int) := by omega
        have ha1 : (a : Int) < (n : Int) := by omega
        have ha0 : (0 : Int) ≤ (a : Int) := by omega
        have HA : Hid (∀ W, Below w.heap.size w W → W.rangeAt b (off + a * 9) (el kd2 th2 o k x cc2 y2 wh2 st2)) := fun W hb => by have := (HE.out W hb a (by omega)).1; rw [he2] at this; exact this
        clear hcs hk ha hra he2 hcap hkl hgB
        have RA : Hid (W.rangeAt b (off + i * 9) (el 2 th o k x cc y wh st)) := hrow
        clear hrow
        obtain ⟨be, hbe⟩ : ∃ q, q = W.heap.size := ⟨_, rfl⟩
        have hOl : Hid (∀ gz, (Value.slice (some ⟨g, 0, none⟩) cs.length cap).ownBlock = some gz → gz ≠ be) := fun gz hg => by have := (hO.out.lt gz hg).2; omega
        have HBE : Hid _ := hbe
        clear hbe
        go_wp2_with (first
          | (refine lO rfl RA.out rfl (rwEv 2 th o k x cc y wh st) ?_; clear RA)
          | (rw [← HBE.out]
             replace hS := hid (hS.out.new (.cells [.int .i64 0, .int .i64 0, .int .i64 0, .int .i64 0, .int .i64 0, .int .i64 0, .int .i64 0, .int .i64 0, .int .i64 0].toArray 56))
             replace hO := hid (hO.out.new (.cells [.int .i64 0, .int .i64 0, .int .i64 0, .int .i64 0, .int .i64 0, .int .i64 0, .int .i64 0, .int .i64 0, .int .i64 0].toArray 56))
             replace hM := hid (hM.out.born [.int .i64 0, .int .i64 0, .int .i64 0, .int .i64 0, .int .i64 0, .int .i64 0, .int .i64 0, .int .i64 0, .int .i64 0] 56 HBE.out)
             refine sR rfl (hM.out.at 0 rfl) rfl ((rwEv 0 0 0 0 0 0 0 0 0).len (rwEv 2 th o k x cc y wh st)) (rwEv 2 th o k x cc y wh st) ?_
             replace hS := hid (hS.out.asideL (hM.out.ne 1 0 rfl rfl (by decide)) 0 (el 2 th o k x cc y wh st))
             replace hO := hid (hO.out.asideL hOl.out 0 (el 2 th o k x cc y wh st))
             replace hM := hid (hM.out.put 0 rfl (el 2 th o k x cc y wh st) ((rwEv 0 0 0 0 0 0 0 0 0).len (rwEv 2 th o k x cc y wh st)))
             generalize World.setCells _ _ _ _ = W at hM hS hO ⊢
             clear HBE
             have LK : Hid _ := hS.out.look mapi_desc zero_int HW.out (mfn_some HOP.out)
             have c1 := hM.out.cell 0 0 rfl rfl
             have c2 := hM.out.cell 0 1 rfl rfl)
          | (at_lookup
             refine wpList_look rfl _ _ _ rfl rfl rfl LK.out ?_))
        clear c1 c2
        replace hM := hid (hM.out.drew)
        replace hS := hid (hS.out.drew)
        replace hO := hid (hO.out.drew)
        refine wp_region_held_drew (S := fun w' => Bo w' be (el 2 th o k x cc y wh st) ∧ Bo w' g (ccs cs) ∧ w'.rangeAt b (off + a * 9) (el kd2 th2 o k x cc2 y2 wh2 st2)) (by kernel_rfl) ⟨hM.out.at 0 rfl, hO.out.bo, HA.out _ hM.out.below⟩ (fun hH => ?_)
        generalize World.drew _ = W at hM hH hS hO ⊢
        refine tk 0 rfl hH ?_
        simp only [Act.put, p1, p2, p3]
        refine tk 1 rfl hH ?_ (by intro w h; have c0 := h.1.at 0 rfl; clear h; go_simp; try with_reducible rfl)
        simp only [Act.put, p1, p2, p3]
        refine tk 2 rfl hH ?_
        simp only [Act.put, p1, p2, p3]
        refine tk 3 rfl hH ?_
        simp only [Act.put, p1, p2, p3]
        refine tk 4 rfl hH ?_
        simp only [Act.put, p1, p2, p3]
        refine tk 5 rfl hH ?_
        simp only [Act.put, p1, p2, p3]
        refine tk 6 rfl hH ?_
        simp only [Act.put, p1, p2, p3]
        refine tk 7 rfl hH ?_
        simp only [Act.put, p1, p2, p3]
        refine tk 8 rfl hH ?_ (by intro w h; have c0 := h.1.at 2 rfl; have c1 := h.1.at 3 rfl; have c2 := h.1.at 4 rfl; clear h; go_simp; try with_reducible rfl)
        simp only [Act.put, p1, p2, p3]
        refine tk 9 rfl hH ?_
        simp only [Act.put, p1, p2, p3]
        refine tk 10 rfl hH ?_
        simp only [Act.put, p1, p2, p3]
        refine tk 11 rfl hH ?_
        simp only [Act.put, p1, p2, p3]
        refine tk 12 rfl hH ?_
        simp only [Act.put, p1, p2, p3]
        refine tk 13 rfl hH ?_
        simp only [Act.put, p1, p2, p3]
        refine tk 14 rfl hH ?_ (by intro w h; have c0 := h.2.1.cell (kk * 2) _ CK.out.1; clear h; go_simp; try with_reducible rfl)
        simp only [Act.put, p1, p2, p3]
        refine tk 15 rfl hH ?_
        simp only [Act.put, p1, p2, p3]
        refine tk 16 rfl hH ?_
        simp only [Act.put, p1, p2, p3]
        refine tk 17 rfl hH ?_ (by intro w h; have c0 := h.2.2 2 _ rfl; have c1 := h.2.2 3 _ rfl; have c2 := h.2.2 4 _ rfl; clear h; go_simp; try with_reducible rfl)
        simp only [Act.put, p1, p2, p3]
        refine tk 18 rfl hH ?_
        simp only [Act.put, p1, p2, p3]
        refine tk 19 rfl hH ?_
        simp only [Act.put, p1, p2, p3]
        refine tk 20 rfl hH ?_
        simp only [Act.put, p1, p2, p3]
        refine wpAnyH_done (by kernel_rfl) ?_ _
        obtain ⟨W2, dl, hS2, ht⟩ := hS.out.del mapi_desc HW.out 0
        have hS3 : Hid _ := hid (hS2.congr MF.out)
        have hO3 : Hid _ := hid (Oc.turned hO.out (show n0 < n0 + 1 by omega) ht)
        have HZ3 : Hid (n0 + 1 ≤ W2.heap.size) := Nat.le_trans hM.out.sz1 ht.grown.size
        have hM3 : Hid _ := hid ((hM.out.turned 1 rfl ht.grown (fun j => hS2.froz j)).pick [1])
        have DL : Hid _ := dl
        clear hS2 ht dl
        have c3 := hM.out.cell 0 1 rfl rfl
        have cz := hO3.out.bo.cell (kk * 2 + 1) _ CK.out.2
        have fz := hO3.out.bo.froz (kk * 2 + 1)
        go_wp2_with (first
          | (at_delete
             refine wpList_del rfl _ _ _ _ rfl rfl rfl DL.out ?_))
        clear c3 cz fz
        have hO4 : Hid (Oc (n0 + 1) (W2.setCell ⟨g, kk * 2 + 1, none⟩ (.int .i64 (i : Nat))) (.slice (some ⟨g, 0, none⟩) cs.length cap) ds) := by rw [DS.out]; exact hO3.out.set HK.out (some i)
        have hS4 : Hid _ := hid (hS3.out.aside1 (c := g) (j := kk * 2 + 1) (by have := HG.out; omega) (.int .i64 (i : Nat)))
        have hM4 : Hid _ := hid (hM3.out.laterA ((Below.refl (n0 + 1) W2).setCell (p := ⟨g, kk * 2 + 1, none⟩) HG.out (.int .i64 (i : Nat))) ⟨by omega, by intro b hb; simp at hb; omega⟩)
        have HZ4 : Hid (n0 + 1 ≤ (W2.setCell ⟨g, kk * 2 + 1, none⟩ (.int .i64 (i : Nat))).heap.size) := hid (by have := HZ3.out; simpa using this)
        go_roundg (n - (i + 1))
        case measure => omega
        case rel => exact ⟨i + 1, ds, by omega, by omega, by have := HC.out; have hw : wrap64 ((i : Int) + 1) = ((i + 1 : Nat) : Int) := (by unfold wrap64; omega); rw [hw], CF2, hO4, hS4.out.mono (by omega), HZ4, hM4⟩
    · obtain rfl : i = n := by omega
      have hi1 : ¬ (i : Int) < (i : Int) := by omega
      obtain rfl : fin = cs := Option.some.inj (HF.out.symm.trans CF.out)
      go_wp2
      go_ret2
      exact ⟨u4, rfl, by rw [HSZ.out]; exact hO.out.mono_ (by omega), hM.out.below⟩
set_option maxHeartbeats 16000000 in
theorem callsOf_bad {b off c n m : Nat} {h : Nat → EV} {fin : List CC} (h0 : 0 < n) (hc : n ≤ c) (hn : n ≤ 1000000) (hm : m < n) (hO : callsF h m = some fin) (hB : stepC h m fin = none) (w : World) (E : Ev w (.slice (some ⟨b, off, none⟩) n c) n h) :
    Calls Tryz.prog 39 #[.slice (some ⟨b, off, none⟩) n c] w (CallsN w m) := by
  have HE : Hid _ := hid E.all
  clear E
  have HF : Hid _ := hO
  clear hO
  have HB : Hid _ := hB
  clear hB
  have HC : Hid (n ≤ c ∧ n ≤ 1000000) := ⟨hc, hn⟩
  clear hc hn h0
  have hmm := @run_makeMap Tryz.prog
  have hM : Hid _ := hid ((Ms.nil w).bornM rfl)
  have hS : Hid (Imp _ w.heap.size 0 _) := Imp.made w
  go_enter Tryz.func39, Tryz.ntmps39
  go_wp2_with fail
  clear hmm
  have hsz1 : Hid ((w.alloc (.map #[] 0)).heap.size = w.heap.size + 1) := hid (by simp)
  generalize World.alloc _ _ = W at hM hS hsz1 ⊢
  generalize hsz : w.heap.size = n0 at hM hS hsz1 ⊢
  have HSZ : Hid _ := hsz
  clear hsz
  go_loopg [4, 13] m (fun gg s4 s13 wt => ∃ (i : Nat) (cs : List CC), i ≤ m ∧ m - i ≤ gg ∧ s13 = .int .i64 i ∧ Hid (callsF h i = some cs) ∧ Hid (Oc (n0 + 1) wt s4 cs) ∧ Hid (Imp wt n0 i (mfn h cs)) ∧ Hid (n0 + 1 ≤ wt.heap.size) ∧ Hid (Ms n0 w wt [(n0, [])] []))
  case atStart => exact ⟨0, [], by omega, by omega, rfl, hid rfl, Oc.nil _ _, hS, hid (Nat.le_of_eq hsz1.out.symm), hM⟩
  case round =>
    clear hM hS hsz1
    obtain ⟨i, cs, hi, hgg, rfl, CF, hO, hS, HZ, hM⟩ := hrel
    obtain ⟨W, rfl⟩ : ∃ q, q = wr := ⟨_, rfl⟩
    have GG : Hid (GC h i cs) := GC.of CF.out
    by_cases hlt : i < m
    · have hi1 : (i : Int) < (n : Int) := by omega
      have hi0 : (0 : Int) ≤ (i : Int) := by omega
      have hrow := (HE.out W hM.out.below i (by omega)).1
      have hwf := (HE.out W hM.out.below i (by omega)).2
      obtain ⟨⟨kd, th, o, k, x, cc, y, wh, st⟩, he⟩ : ∃ e, h i = e := ⟨_, rfl⟩
      obtain ⟨ds, hst, hcf⟩ := callsF_next HF.out hlt CF.out
      have CF2 : Hid _ := hcf
      clear hcf
      rcases stepC_some hst with ⟨h3, hd⟩ | ⟨h1, hop, hd⟩ | ⟨kk, a, h2, hop, hk, heq, hd⟩
      · subst hd
        rw [he] at h3 hrow hwf
        replace h3 : kd = 3 := h3
        subst kd
        replace hwf : (Lit.int .i64 th).wf = true := hwf
        have HW : Hid _ := hwf
        clear hst hwf he
        have RA : Hid (W.rangeAt b (off + i * 9) (el 3 th o k x cc y wh st)) := hrow
        clear hrow
        obtain ⟨be, hbe⟩ : ∃ q, q = W.heap.size := ⟨_, rfl⟩
        have hOl : Hid (∀ gz, (u4).ownBlock = some gz → gz ≠ be) := fun gz hg => by have := (hO.out.lt gz hg).2; omega
        have HBE : Hid _ := hbe
        clear hbe
        go_wp2_with (first
          | (refine lO rfl RA.out rfl (rwEv 3 th o k x cc y wh st) ?_; clear RA)
          | (rw [← HBE.out]
             replace hS := hid (hS.out.new (.cells [.int .i64 0, .int .i64 0, .int .i64 0, .int .i64 0, .int .i64 0, .int .i64 0, .int .i64 0, .int .i64 0, .int .i64 0].toArray 56))
             replace hO := hid (hO.out.new (.cells [.int .i64 0, .int .i64 0, .int .i64 0, .int .i64 0, .int .i64 0, .int .i64 0, .int .i64 0, .int .i64 0, .int .i64 0].toArray 56))
             replace hM := hid (hM.out.born [.int .i64 0, .int .i64 0, .int .i64 0, .int .i64 0, .int .i64 0, .int .i64 0, .int .i64 0, .int .i64 0, .int .i64 0] 56 HBE.out)
             refine sR rfl (hM.out.at 0 rfl) rfl ((rwEv 0 0 0 0 0 0 0 0 0).len (rwEv 3 th o k x cc y wh st)) (rwEv 3 th o k x cc y wh st) ?_
             replace hS := hid (hS.out.asideL (hM.out.ne 1 0 rfl rfl (by decide)) 0 (el 3 th o k x cc y wh st))
             replace hO := hid (hO.out.asideL hOl.out 0 (el 3 th o k x cc y wh st))
             replace hM := hid (hM.out.put 0 rfl (el 3 th o k x cc y wh st) ((rwEv 0 0 0 0 0 0 0 0 0).len (rwEv 3 th o k x cc y wh st)))
             generalize World.setCells _ _ _ _ = W at hM hS hO ⊢
             clear HBE
             obtain ⟨uu, ub, lk⟩ := hS.out.any HW.out
             have LK : Hid _ := lk
             clear lk
             have c1 := hM.out.cell 0 0 rfl rfl
             have c2 := hM.out.cell 0 1 rfl rfl)
          | (at_lookup
             refine wpList_look rfl _ _ _ rfl rfl rfl LK.out ?_))
        clear c1 c2
        go_roundg (m - (i + 1))
        case measure => omega
        case rel => exact ⟨i + 1, ds, by omega, by omega, by have := HC.out; have hw : wrap64 ((i : Int) + 1) = ((i + 1 : Nat) : Int) := (by unfold wrap64; omega); rw [hw], CF2, hO, hS.out.mono (by omega), hid (hM.out.sz1), hM.out.pick [1]⟩
      · rw [he] at h1 hop hrow hwf
        replace h1 : kd = 1 := h1
        subst kd
        replace hwf : (Lit.int .i64 th).wf = true := hwf
        replace hop : opn h cs th = none := hop
        have HW : Hid _ := hwf
        have HOP : Hid _ := hop
        have MF : Hid (∀ t, mfn h ds t = if t = th then some (.int .i64 (cs.length : Nat)) else mfn h cs t) := fun t => by
          have := opn_ask GG.out (by rw [he]; exact hop) t
          rw [he] at this
          unfold mfn
          rw [hd, this]
          by_cases e : t = th
          · rw [if_pos e, if_pos e]; rfl
          · rw [if_neg e, if_neg e]
        have DS : Hid _ := hd
        have HL : Hid (cs.length ≤ i) := GG.out.len
        clear hst hwf he hop hd
        obtain ⟨va, vcap, rfl⟩ := hO.out.len
        have RA : Hid (W.rangeAt b (off + i * 9) (el 1 th o k x cc y wh st)) := hrow
        clear hrow
        obtain ⟨be, hbe⟩ : ∃ q, q = W.heap.size := ⟨_, rfl⟩
        have hOl : Hid (∀ gz, (Value.slice va cs.length vcap).ownBlock = some gz → gz ≠ be) := fun gz hg => by have := (hO.out.lt gz hg).2; omega
        have HBE : Hid _ := hbe
        clear hbe
        go_wp2_with (first
          | (refine lO rfl RA.out rfl (rwEv 1 th o k x cc y wh st) ?_; clear RA)
          | (rw [← HBE.out]
             replace hS := hid (hS.out.new (.cells [.int .i64 0, .int .i64 0, .int .i64 0, .int .i64 0, .int .i64 0, .int .i64 0, .int .i64 0, .int .i64 0, .int .i64 0].toArray 56))
             replace hO := hid (hO.out.new (.cells [.int .i64 0, .int .i64 0, .int .i64 0, .int .i64 0, .int .i64 0, .int .i64 0, .int .i64 0, .int .i64 0, .int .i64 0].toArray 56))
             replace hM := hid (hM.out.born [.int .i64 0, .int .i64 0, .int .i64 0, .int .i64 0, .int .i64 0, .int .i64 0, .int .i64 0, .int .i64 0, .int .i64 0] 56 HBE.out)
             refine sR rfl (hM.out.at 0 rfl) rfl ((rwEv 0 0 0 0 0 0 0 0 0).len (rwEv 1 th o k x cc y wh st)) (rwEv 1 th o k x cc y wh st) ?_
             replace hS := hid (hS.out.asideL (hM.out.ne 1 0 rfl rfl (by decide)) 0 (el 1 th o k x cc y wh st))
             replace hO := hid (hO.out.asideL hOl.out 0 (el 1 th o k x cc y wh st))
             replace hM := hid (hM.out.put 0 rfl (el 1 th o k x cc y wh st) ((rwEv 0 0 0 0 0 0 0 0 0).len (rwEv 1 th o k x cc y wh st)))
             generalize World.setCells _ _ _ _ = W at hM hS hO ⊢
             clear HBE
             have LK : Hid _ := hS.out.miss mapi_desc zero_int HW.out (mfn_none HOP.out)
             have c1 := hM.out.cell 0 0 rfl rfl
             have c2 := hM.out.cell 0 1 rfl rfl
             obtain ⟨W2, up, hS2, ht⟩ := hS.out.add mapi_desc (by have := HC.out; unfold maxLen; omega) HW.out (.int .i64 (cs.length : Nat))
             have hS3 : Hid _ := hid (hS2.congr MF.out)
             have hO3 : Hid _ := hid (Oc.turned hO.out (show n0 < n0 + 1 by omega) ht)
             have HZ3 : Hid (n0 + 1 ≤ W2.heap.size) := Nat.le_trans hM.out.sz1 ht.grown.size
             have hM3 : Hid _ := hid ((hM.out.turned 1 rfl ht.grown (fun j => hS2.froz j)).pick [1])
             have UP : Hid _ := up
             clear hS2 ht up)
          | (at_lookup
             refine wpList_look rfl _ _ _ rfl rfl rfl LK.out ?_)
          | (at_mapUpdate
             refine wpList_mapUp rfl _ _ _ _ rfl rfl rfl rfl UP.out ?_)
          | (at_builtin
             refine wpList_push rfl rfl (.tmp 46) (.tmp 49) rfl rfl rfl (B := n0 + 1) (cs := cs) (nb := W2.heap.size) (i := i) (by have := HZ3.out; simp; omega) (hO3.out.new _) (by simp) (by simp) (by have := HL.out; have := HC.out; omega) ?_
             intro v9 w9 hO9 hb9
             have hO : Hid _ := hid hO9
             have hS : Hid _ := hid ((hS3.out.new _).laterA hb9 (by omega))
             have HZ9 : Hid _ := hid (Nat.le_trans HZ3.out (Nat.le_trans (by simp) hb9.size))
             have hM : Hid _ := hid ((hM3.out.new _).laterA hb9 ⟨by omega, by intro b hb; simp at hb; omega⟩)
             rw [← DS.out] at hO
             clear hO9 hb9))
        clear c1 c2
        go_roundg (m - (i + 1))
        case measure => omega
        case rel => exact ⟨i + 1, ds, by omega, by omega, by have := HC.out; have hw : wrap64 ((i : Int) + 1) = ((i + 1 : Nat) : Int) := (by unfold wrap64; omega); rw [hw], CF2, hO, hS, HZ9, hM⟩
      · rw [he] at h2 hop hrow hwf heq
        replace h2 : kd = 2 := h2
        subst kd
        replace hwf : (Lit.int .i64 th).wf = true := hwf
        replace hop : opn h cs th = some kk := hop
        have HW : Hid _ := hwf
        have HOP : Hid _ := hop
        have MF : Hid (∀ t, mfn h ds t = if t = th then none else mfn h cs t) := fun t => by
          have := opn_answer GG.out (by rw [he]; exact hop) t
          rw [cg_of hk, he] at this
          unfold mfn
          rw [hd, this]
          by_cases e : t = th
          · rw [if_pos e, if_pos e]; rfl
          · rw [if_neg e, if_neg e]
        have DS : Hid _ := hd
        clear hst hwf he hop hd
        have ha : a < i := (GG.out.lt _ (List.mem_of_getElem? hk)).1
        have hra := (HE.out W hM.out.below a (by omega)).1
        obtain ⟨⟨kd2, th2, o2, k2, x2, cc2, y2, wh2, st2⟩, he2⟩ : ∃ e, h a = e := ⟨_, rfl⟩
        rw [he2] at hra heq
        obtain ⟨rfl, rfl, rfl⟩ : o = o2 ∧ k = k2 ∧ x = x2 := by simpa [EV.op] using heq
        have EQ := fun w => op_eq o k x o k x true (by simp) w
        clear heq
        obtain ⟨g, cap, hv, hgB, hcap, hcs⟩ : ∃ g cap, u4 = .slice (some ⟨g, 0, none⟩) cs.length cap ∧ n0 + 1 ≤ g ∧ cs.length ≤ cap ∧ Bo W g (ccs cs) := by
          rcases hO.out.form with ⟨_, rfl⟩ | h
          · simp at hk
          · exact h
        subst hv
        have hkl : kk < cs.length := (List.getElem?_eq_some_iff.1 hk).1
        have CK : Hid _ := ccs_get cs kk _ hk
        have HK : Hid _ := hk
        have HG : Hid (n0 + 1 ≤ g) := hgB
        have hk1 : (kk : Int) < (cs.length : Int) := by omega
        have hk0 : (0 : Int) ≤ (kk : Int) := by omega
        have ha1 : (a : Int) < (n : Int) := by omega
        have ha0 : (0 : Int) ≤ (a : Int) := by omega
        have HA : Hid (∀ W, Below w.heap.size w W → W.rangeAt b (off + a * 9) (el kd2 th2 o k x cc2 y2 wh2 st2)) := fun W hb => by have := (HE.out W hb a (by omega)).1; rw [he2] at this; exact this
        clear hcs hk ha hra he2 hcap hkl hgB
        have RA : Hid (W.rangeAt b (off + i * 9) (el 2 th o k x cc y wh st)) := hrow
        clear hrow
        obtain ⟨be, hbe⟩ : ∃ q, q = W.heap.size := ⟨_, rfl⟩
        have hOl : Hid (∀ gz, (Value.slice (some ⟨g, 0, none⟩) cs.length cap).ownBlock = some gz → gz ≠ be) := fun gz hg => by have := (hO.out.lt gz hg).2; omega
        have HBE : Hid _ := hbe
        clear hbe
        go_wp2_with (first
          | (refine lO rfl RA.out rfl (rwEv 2 th o k x cc y wh st) ?_; clear RA)
          | (rw [← HBE.out]
             replace hS := hid (hS.out.new (.cells [.int .i64 0, .int .i64 0, .int .i64 0, .int .i64 0, .int .i64 0, .int .i64 0, .int .i64 0, .int .i64 0, .int .i64 0].toArray 56))
             replace hO := hid (hO.out.new (.cells [.int .i64 0, .int .i64 0, .int .i64 0, .int .i64 0, .int .i64 0, .int .i64 0, .int .i64 0, .int .i64 0, .int .i64 0].toArray 56))
             replace hM := hid (hM.out.born [.int .i64 0, .int .i64 0, .int .i64 0, .int .i64 0, .int .i64 0, .int .i64 0, .int .i64 0, .int .i64 0, .int .i64 0] 56 HBE.out)
             refine sR rfl (hM.out.at 0 rfl) rfl ((rwEv 0 0 0 0 0 0 0 0 0).len (rwEv 2 th o k x cc y wh st)) (rwEv 2 th o k x cc y wh st) ?_
             replace hS := hid (hS.out.asideL (hM.out.ne 1 0 rfl rfl (by decide)) 0 (el 2 th o k x cc y wh st))
             replace hO := hid (hO.out.asideL hOl.out 0 (el 2 th o k x cc y wh st))
             replace hM := hid (hM.out.put 0 rfl (el 2 th o k x cc y wh st) ((rwEv 0 0 0 0 0 0 0 0 0).len (rwEv 2 th o k x cc y wh st)))
             generalize World.setCells _ _ _ _ = W at hM hS hO ⊢
             clear HBE
             have LK : Hid _ := hS.out.look mapi_desc zero_int HW.out (mfn_some HOP.out)
             have c1 := hM.out.cell 0 0 rfl rfl
             have c2 := hM.out.cell 0 1 rfl rfl)
          | (at_lookup
             refine wpList_look rfl _ _ _ rfl rfl rfl LK.out ?_))
        clear c1 c2
        replace hM := hid (hM.out.drew)
        replace hS := hid (hS.out.drew)
        replace hO := hid (hO.out.drew)
        refine wp_region_held_drew (S := fun w' => Bo w' be (el 2 th o k x cc y wh st) ∧ Bo w' g (ccs cs) ∧ w'.rangeAt b (off + a * 9) (el kd2 th2 o k x cc2 y2 wh2 st2)) (by kernel_rfl) ⟨hM.out.at 0 rfl, hO.out.bo, HA.out _ hM.out.below⟩ (fun hH => ?_)
        generalize World.drew _ = W at hM hH hS hO ⊢
        refine tk 0 rfl hH ?_
        simp only [Act.put, p1, p2, p3]
        refine tk 1 rfl hH ?_ (by intro w h; have c0 := h.1.at 0 rfl; clear h; go_simp; try with_reducible rfl)
        simp only [Act.put, p1, p2, p3]
        refine tk 2 rfl hH ?_
        simp only [Act.put, p1, p2, p3]
        refine tk 3 rfl hH ?_
        simp only [Act.put, p1, p2, p3]
        refine tk 4 rfl hH ?_
        simp only [Act.put, p1, p2, p3]
        refine tk 5 rfl hH ?_
        simp only [Act.put, p1, p2, p3]
        refine tk 6 rfl hH ?_
        simp only [Act.put, p1, p2, p3]
        refine tk 7 rfl hH ?_
        simp only [Act.put, p1, p2, p3]
        refine tk 8 rfl hH ?_ (by intro w h; have c0 := h.1.at 2 rfl; have c1 := h.1.at 3 rfl; have c2 := h.1.at 4 rfl; clear h; go_simp; try with_reducible rfl)
        simp only [Act.put, p1, p2, p3]
        refine tk 9 rfl hH ?_
        simp only [Act.put, p1, p2, p3]
        refine tk 10 rfl hH ?_
        simp only [Act.put, p1, p2, p3]
        refine tk 11 rfl hH ?_
        simp only [Act.put, p1, p2, p3]
        refine tk 12 rfl hH ?_
        simp only [Act.put, p1, p2, p3]
        refine tk 13 rfl hH ?_
        simp only [Act.put, p1, p2, p3]
        refine tk 14 rfl hH ?_ (by intro w h; have c0 := h.2.1.cell (kk * 2) _ CK.out.1; clear h; go_simp; try with_reducible rfl)
        simp only [Act.put, p1, p2, p3]
        refine tk 15 rfl hH ?_
        simp only [Act.put, p1, p2, p3]
        refine tk 16 rfl hH ?_
        simp only [Act.put, p1, p2, p3]
        refine tk 17 rfl hH ?_ (by intro w h; have c0 := h.2.2 2 _ rfl; have c1 := h.2.2 3 _ rfl; have c2 := h.2.2 4 _ rfl; clear h; go_simp; try with_reducible rfl)
        simp only [Act.put, p1, p2, p3]
        refine tk 18 rfl hH ?_
        simp only [Act.put, p1, p2, p3]
        refine tk 19 rfl hH ?_
        simp only [Act.put, p1, p2, p3]
        refine tk 20 rfl hH ?_
        simp only [Act.put, p1, p2, p3]
        refine wpAnyH_done (by kernel_rfl) ?_ _
        obtain ⟨W2, dl, hS2, ht⟩ := hS.out.del mapi_desc HW.out 0
        have hS3 : Hid _ := hid (hS2.congr MF.out)
        have hO3 : Hid _ := hid (Oc.turned hO.out (show n0 < n0 + 1 by omega) ht)
        have HZ3 : Hid (n0 + 1 ≤ W2.heap.size) := Nat.le_trans hM.out.sz1 ht.grown.size
        have hM3 : Hid _ := hid ((hM.out.turned 1 rfl ht.grown (fun j => hS2.froz j)).pick [1])
        have DL : Hid _ := dl
        clear hS2 ht dl
        have c3 := hM.out.cell 0 1 rfl rfl
        have cz := hO3.out.bo.cell (kk * 2 + 1) _ CK.out.2
        have fz := hO3.out.bo.froz (kk * 2 + 1)
        go_wp2_with (first
          | (at_delete
             refine wpList_del rfl _ _ _ _ rfl rfl rfl DL.out ?_))
        clear c3 cz fz
        have hO4 : Hid (Oc (n0 + 1) (W2.setCell ⟨g, kk * 2 + 1, none⟩ (.int .i64 (i : Nat))) (.slice (some ⟨g, 0, none⟩) cs.length cap) ds) := by rw [DS.out]; exact hO3.out.set HK.out (some i)
        have hS4 : Hid _ := hid (hS3.out.aside1 (c := g) (j := kk * 2 + 1) (by have := HG.out; omega) (.int .i64 (i : Nat)))
        have hM4 : Hid _ := hid (hM3.out.laterA ((Below.refl (n0 + 1) W2).setCell (p := ⟨g, kk * 2 + 1, none⟩) HG.out (.int .i64 (i : Nat))) ⟨by omega, by intro b hb; simp at hb; omega⟩)
        have HZ4 : Hid (n0 + 1 ≤ (W2.setCell ⟨g, kk * 2 + 1, none⟩ (.int .i64 (i : Nat))).heap.size) := hid (by have := HZ3.out; simpa using this)
        go_roundg (m - (i + 1))
        case measure => omega
        case rel => exact ⟨i + 1, ds, by omega, by omega, by have := HC.out; have hw : wrap64 ((i : Int) + 1) = ((i + 1 : Nat) : Int) := (by unfold wrap64; omega); rw [hw], CF2, hO4, hS4.out.mono (by omega), HZ4, hM4⟩
    · obtain rfl : i = m := by omega
      obtain rfl : cs = fin := Option.some.inj (CF.out.symm.trans HF.out)
      have hi1 : (i : Int) < (n : Int) := by omega
      have hi0 : (0 : Int) ≤ (i : Int) := by omega
      have hrow := (HE.out W hM.out.below i (by omega)).1
      have hwf := (HE.out W hM.out.below i (by omega)).2
      obtain ⟨⟨kd, th, o, k, x, cc, y, wh, st⟩, he⟩ : ∃ e, h i = e := ⟨_, rfl⟩
      obtain ⟨h3, hor⟩ := stepC_none HB.out
      rw [he] at h3 hrow hwf hor
      replace hwf : (Lit.int .i64 th).wf = true := hwf
      have HW : Hid _ := hwf
      replace h3 : kd ≠ 3 := h3
      rcases hor with ⟨hop, h1⟩ | ⟨kk, a, hop, hk, hor⟩
      · replace h1 : kd ≠ 1 := h1
        replace hop : opn h cs th = none := hop
        clear he hwf
        by_cases h2 : kd = 2
        · subst kd
          clear h1 h3
          have RA : Hid (W.rangeAt b (off + i * 9) (el 2 th o k x cc y wh st)) := hrow
          clear hrow
          obtain ⟨be, hbe⟩ : ∃ q, q = W.heap.size := ⟨_, rfl⟩
          have hOl : Hid (∀ gz, (u4).ownBlock = some gz → gz ≠ be) := fun gz hg => by have := (hO.out.lt gz hg).2; omega
          have HBE : Hid _ := hbe
          clear hbe
          go_wp2_with (first
            | (refine lO rfl RA.out rfl (rwEv 2 th o k x cc y wh st) ?_; clear RA)
            | (rw [← HBE.out]
               replace hS := hid (hS.out.new (.cells [.int .i64 0, .int .i64 0, .int .i64 0, .int .i64 0, .int .i64 0, .int .i64 0, .int .i64 0, .int .i64 0, .int .i64 0].toArray 56))
               replace hO := hid (hO.out.new (.cells [.int .i64 0, .int .i64 0, .int .i64 0, .int .i64 0, .int .i64 0, .int .i64 0, .int .i64 0, .int .i64 0, .int .i64 0].toArray 56))
               replace hM := hid (hM.out.born [.int .i64 0, .int .i64 0, .int .i64 0, .int .i64 0, .int .i64 0, .int .i64 0, .int .i64 0, .int .i64 0, .int .i64 0] 56 HBE.out)
               refine sR rfl (hM.out.at 0 rfl) rfl ((rwEv 0 0 0 0 0 0 0 0 0).len (rwEv 2 th o k x cc y wh st)) (rwEv 2 th o k x cc y wh st) ?_
               replace hS := hid (hS.out.asideL (hM.out.ne 1 0 rfl rfl (by decide)) 0 (el 2 th o k x cc y wh st))
               replace hO := hid (hO.out.asideL hOl.out 0 (el 2 th o k x cc y wh st))
               replace hM := hid (hM.out.put 0 rfl (el 2 th o k x cc y wh st) ((rwEv 0 0 0 0 0 0 0 0 0).len (rwEv 2 th o k x cc y wh st)))
               generalize World.setCells _ _ _ _ = W at hM hS hO ⊢
               clear HBE
               have LK : Hid _ := hS.out.miss mapi_desc zero_int HW.out (mfn_none hop)
               have c1 := hM.out.cell 0 0 rfl rfl
               have c2 := hM.out.cell 0 1 rfl rfl)
            | (at_lookup
               refine wpList_look rfl _ _ _ rfl rfl rfl LK.out ?_))
          clear c1 c2
          replace hM := hid (hM.out.drew)
          replace hS := hid (hS.out.drew)
          replace hO := hid (hO.out.drew)
          refine wp_region_held_drew (S := fun w' => Bo w' be (el 2 th o k x cc y wh st)) (by kernel_rfl) (hM.out.at 0 rfl) (fun hH => ?_)
          generalize World.drew _ = W at hM hH hS hO ⊢
          refine tk 0 rfl hH ?_
          simp only [Act.put, p1, p2, p3]
          refine tk 1 rfl hH ?_ (by intro w h; have c0 := h.at 0 rfl; clear h; go_simp; try with_reducible rfl)
          simp only [Act.put, p1, p2, p3]
          refine tk 2 rfl hH ?_
          simp only [Act.put, p1, p2, p3]
          refine tk 3 rfl hH ?_
          simp only [Act.put, p1, p2, p3]
          refine tk 4 rfl hH ?_
          simp only [Act.put, p1, p2, p3]
          refine tk 5 rfl hH ?_
          simp only [Act.put, p1, p2, p3]
          refine tk 6 rfl hH ?_
          simp only [Act.put, p1, p2, p3]
          refine tkN 7 rfl hH ?_
          simp only [Act.put, p1, p2, p3]
          refine tkN 8 rfl hH ?_
          simp only [Act.put, p1, p2, p3]
          refine tkN 9 rfl hH ?_
          simp only [Act.put, p1, p2, p3]
          refine tkN 10 rfl hH ?_
          simp only [Act.put, p1, p2, p3]
          refine tkN 11 rfl hH ?_
          simp only [Act.put, p1, p2, p3]
          refine tkN 12 rfl hH ?_
          simp only [Act.put, p1, p2, p3]
          refine tkN 13 rfl hH ?_
          simp only [Act.put, p1, p2, p3]
          refine tkN 14 rfl hH ?_
          simp only [Act.put, p1, p2, p3]
          refine tkN 15 rfl hH ?_
          simp only [Act.put, p1, p2, p3]
          refine tkN 16 rfl hH ?_
          simp only [Act.put, p1, p2, p3]
          refine tkN 17 rfl hH ?_
          simp only [Act.put, p1, p2, p3]
          refine tkN 18 rfl hH ?_
          simp only [Act.put, p1, p2, p3]
          refine tk 19 rfl hH ?_
          simp only [Act.put, p1, p2, p3]
          refine tk 20 rfl hH ?_
          simp only [Act.put, p1, p2, p3]
          refine wpAnyH_done (by kernel_rfl) ?_ _
          have hM9 : Hid _ := hid (hM.out.born [.int .i64 10, .int .i64 (i : Nat)] 67 rfl)
          go_wp2
          go_ret2
          exact ⟨W.heap.size, rfl, by rw [HSZ.out]; exact hM.out.le, hM9.out.at 0 rfl, hM9.out.below⟩
        · have k1 : (kd == 1) = false := beq_eq_false_iff_ne.2 h1
          have k2 : (kd == 2) = false := beq_eq_false_iff_ne.2 h2
          have k3 : (kd == 3) = false := beq_eq_false_iff_ne.2 h3
          clear h1 h2 h3
          have RA : Hid (W.rangeAt b (off + i * 9) (el kd th o k x cc y wh st)) := hrow
          clear hrow
          obtain ⟨be, hbe⟩ : ∃ q, q = W.heap.size := ⟨_, rfl⟩
          have hOl : Hid (∀ gz, (u4).ownBlock = some gz → gz ≠ be) := fun gz hg => by have := (hO.out.lt gz hg).2; omega
          have HBE : Hid _ := hbe
          clear hbe
          go_wp2_with (first
            | (refine lO rfl RA.out rfl (rwEv kd th o k x cc y wh st) ?_; clear RA)
            | (rw [← HBE.out]
               replace hS := hid (hS.out.new (.cells [.int .i64 0, .int .i64 0, .int .i64 0, .int .i64 0, .int .i64 0, .int .i64 0, .int .i64 0, .int .i64 0, .int .i64 0].toArray 56))
               replace hO := hid (hO.out.new (.cells [.int .i64 0, .int .i64 0, .int .i64 0, .int .i64 0, .int .i64 0, .int .i64 0, .int .i64 0, .int .i64 0, .int .i64 0].toArray 56))
               replace hM := hid (hM.out.born [.int .i64 0, .int .i64 0, .int .i64 0, .int .i64 0, .int .i64 0, .int .i64 0, .int .i64 0, .int .i64 0, .int .i64 0] 56 HBE.out)
               refine sR rfl (hM.out.at 0 rfl) rfl ((rwEv 0 0 0 0 0 0 0 0 0).len (rwEv kd th o k x cc y wh st)) (rwEv kd th o k x cc y wh st) ?_
               replace hS := hid (hS.out.asideL (hM.out.ne 1 0 rfl rfl (by decide)) 0 (el kd th o k x cc y wh st))
               replace hO := hid (hO.out.asideL hOl.out 0 (el kd th o k x cc y wh st))
               replace hM := hid (hM.out.put 0 rfl (el kd th o k x cc y wh st) ((rwEv 0 0 0 0 0 0 0 0 0).len (rwEv kd th o k x cc y wh st)))
               generalize World.setCells _ _ _ _ = W at hM hS hO ⊢
               clear HBE
               have LK : Hid _ := hS.out.miss mapi_desc zero_int HW.out (mfn_none hop)
               have c1 := hM.out.cell 0 0 rfl rfl
               have c2 := hM.out.cell 0 1 rfl rfl)
            | (at_lookup
               refine wpList_look rfl _ _ _ rfl rfl rfl LK.out ?_))
          clear c1 c2
          replace hM := hid (hM.out.drew)
          replace hS := hid (hS.out.drew)
          replace hO := hid (hO.out.drew)
          refine wp_region_held_drew (S := fun w' => Bo w' be (el kd th o k x cc y wh st)) (by kernel_rfl) (hM.out.at 0 rfl) (fun hH => ?_)
          generalize World.drew _ = W at hM hH hS hO ⊢
          refine tk 0 rfl hH ?_
          simp only [Act.put, p1, p2, p3]
          refine tk 1 rfl hH ?_ (by intro w h; have c0 := h.at 0 rfl; clear h; go_simp; try with_reducible rfl)
          simp only [Act.put, p1, p2, p3]
          refine tk 2 rfl hH ?_
          simp only [Act.put, p1, p2, p3]
          refine tk 3 rfl hH ?_
          simp only [Act.put, p1, p2, p3]
          refine tkN 4 rfl hH ?_
          simp only [Act.put, p1, p2, p3]
          refine tk 5 rfl hH ?_
          simp only [Act.put, p1, p2, p3]
          refine tk 6 rfl hH ?_
          simp only [Act.put, p1, p2, p3]
          refine tkN 7 rfl hH ?_
          simp only [Act.put, p1, p2, p3]
          refine tkN 8 rfl hH ?_
          simp only [Act.put, p1, p2, p3]
          refine tkN 9 rfl hH ?_
          simp only [Act.put, p1, p2, p3]
          refine tkN 10 rfl hH ?_
          simp only [Act.put, p1, p2, p3]
          refine tkN 11 rfl hH ?_
          simp only [Act.put, p1, p2, p3]
          refine tkN 12 rfl hH ?_
          simp only [Act.put, p1, p2, p3]
          refine tkN 13 rfl hH ?_
          simp only [Act.put, p1, p2, p3]
          refine tkN 14 rfl hH ?_
          simp only [Act.put, p1, p2, p3]
          refine tkN 15 rfl hH ?_
          simp only [Act.put, p1, p2, p3]
          refine tkN 16 rfl hH ?_
          simp only [Act.put, p1, p2, p3]
          refine tkN 17 rfl hH ?_
          simp only [Act.put, p1, p2, p3]
          refine tkN 18 rfl hH ?_
          simp only [Act.put, p1, p2, p3]
          refine tk 19 rfl hH ?_
          simp only [Act.put, p1, p2, p3]
          refine tk 20 rfl hH ?_
          simp only [Act.put, p1, p2, p3]
          refine wpAnyH_done (by kernel_rfl) ?_ _
          have hM9 : Hid _ := hid (hM.out.born [.int .i64 10, .int .i64 (i : Nat)] 67 rfl)
          go_wp2
          go_ret2
          exact ⟨W.heap.size, rfl, by rw [HSZ.out]; exact hM.out.le, hM9.out.at 0 rfl, hM9.out.below⟩
      · replace hop : opn h cs th = some kk := hop
        by_cases h2 : kd = 2
        · have HOP : Hid _ := hop
          subst kd
          replace hor := hor.resolve_left (fun h => h rfl)
          have heq := hor
          clear hor h3 he hwf hop
          have ha : a < i := (GG.out.lt _ (List.mem_of_getElem? hk)).1
          have hra := (HE.out W hM.out.below a (by omega)).1
          obtain ⟨⟨kd2, th2, o2, k2, x2, cc2, y2, wh2, st2⟩, he2⟩ : ∃ e, h a = e := ⟨_, rfl⟩
          rw [he2] at hra heq
          have EQ := fun w => op_eq o k x o2 k2 x2 false (by simpa [EV.op] using heq) w
          clear heq
          obtain ⟨g, cap, hv, hgB, hcap, hcs⟩ : ∃ g cap, u4 = .slice (some ⟨g, 0, none⟩) cs.length cap ∧ n0 + 1 ≤ g ∧ cs.length ≤ cap ∧ Bo W g (ccs cs) := by
            rcases hO.out.form with ⟨_, rfl⟩ | h
            · simp at hk
            · exact h
          subst hv
          have hkl : kk < cs.length := (List.getElem?_eq_some_iff.1 hk).1
          have CK : Hid _ := ccs_get cs kk _ hk
          have HK : Hid _ := hk
          have HG : Hid (n0 + 1 ≤ g) := hgB
          have hk1 : (kk : Int) < (cs.length : Int) := by omega
          have hk0 : (0 : Int) ≤ (kk : Int) := by omega
          have ha1 : (a : Int) < (n : Int) := by omega
          have ha0 : (0 : Int) ≤ (a : Int) := by omega
          have HA : Hid (∀ W, Below w.heap.size w W → W.rangeAt b (off + a * 9) (el kd2 th2 o2 k2 x2 cc2 y2 wh2 st2)) := fun W hb => by have := (HE.out W hb a (by omega)).1; rw [he2] at this; exact this
          clear hcs hk ha hra he2 hcap hkl hgB
          have RA : Hid (W.rangeAt b (off + i * 9) (el 2 th o k x cc y wh st)) := hrow
          clear hrow
          obtain ⟨be, hbe⟩ : ∃ q, q = W.heap.size := ⟨_, rfl⟩
          have hOl : Hid (∀ gz, (Value.slice (some ⟨g, 0, none⟩) cs.length cap).ownBlock = some gz → gz ≠ be) := fun gz hg => by have := (hO.out.lt gz hg).2; omega
          have HBE : Hid _ := hbe
          clear hbe
          go_wp2_with (first
            | (refine lO rfl RA.out rfl (rwEv 2 th o k x cc y wh st) ?_; clear RA)
            | (rw [← HBE.out]
               replace hS := hid (hS.out.new (.cells [.int .i64 0, .int .i64 0, .int .i64 0, .int .i64 0, .int .i64 0, .int .i64 0, .int .i64 0, .int .i64 0, .int .i64 0].toArray 56))
               replace hO := hid (hO.out.new (.cells [.int .i64 0, .int .i64 0, .int .i64 0, .int .i64 0, .int .i64 0, .int .i64 0, .int .i64 0, .int .i64 0, .int .i64 0].toArray 56))
               replace hM := hid (hM.out.born [.int .i64 0, .int .i64 0, .int .i64 0, .int .i64 0, .int .i64 0, .int .i64 0, .int .i64 0, .int .i64 0, .int .i64 0] 56 HBE.out)
               refine sR rfl (hM.out.at 0 rfl) rfl ((rwEv 0 0 0 0 0 0 0 0 0).len (rwEv 2 th o k x cc y wh st)) (rwEv 2 th o k x cc y wh st) ?_
               replace hS := hid (hS.out.asideL (hM.out.ne 1 0 rfl rfl (by decide)) 0 (el 2 th o k x cc y wh st))
               replace hO := hid (hO.out.asideL hOl.out 0 (el 2 th o k x cc y wh st))
               replace hM := hid (hM.out.put 0 rfl (el 2 th o k x cc y wh st) ((rwEv 0 0 0 0 0 0 0 0 0).len (rwEv 2 th o k x cc y wh st)))
               generalize World.setCells _ _ _ _ = W at hM hS hO ⊢
               clear HBE
               have LK : Hid _ := hS.out.look mapi_desc zero_int HW.out (mfn_some HOP.out)
               have c1 := hM.out.cell 0 0 rfl rfl
               have c2 := hM.out.cell 0 1 rfl rfl)
            | (at_lookup
               refine wpList_look rfl _ _ _ rfl rfl rfl LK.out ?_))
          clear c1 c2
          replace hM := hid (hM.out.drew)
          replace hS := hid (hS.out.drew)
          replace hO := hid (hO.out.drew)
          refine wp_region_held_drew (S := fun w' => Bo w' be (el 2 th o k x cc y wh st) ∧ Bo w' g (ccs cs) ∧ w'.rangeAt b (off + a * 9) (el kd2 th2 o2 k2 x2 cc2 y2 wh2 st2)) (by kernel_rfl) ⟨hM.out.at 0 rfl, hO.out.bo, HA.out _ hM.out.below⟩ (fun hH => ?_)
          generalize World.drew _ = W at hM hH hS hO ⊢
          refine tk 0 rfl hH ?_
          simp only [Act.put, p1, p2, p3]
          refine tk 1 rfl hH ?_ (by intro w h; have c0 := h.1.at 0 rfl; clear h; go_simp; try with_reducible rfl)
          simp only [Act.put, p1, p2, p3]
          refine tk 2 rfl hH ?_
          simp only [Act.put, p1, p2, p3]
          refine tk 3 rfl hH ?_
          simp only [Act.put, p1, p2, p3]
          refine tk 4 rfl hH ?_
          simp only [Act.put, p1, p2, p3]
          refine tk 5 rfl hH ?_
          simp only [Act.put, p1, p2, p3]
          refine tk 6 rfl hH ?_
          simp only [Act.put, p1, p2, p3]
          refine tk 7 rfl hH ?_
          simp only [Act.put, p1, p2, p3]
          refine tk 8 rfl hH ?_ (by intro w h; have c0 := h.1.at 2 rfl; have c1 := h.1.at 3 rfl; have c2 := h.1.at 4 rfl; clear h; go_simp; try with_reducible rfl)
          simp only [Act.put, p1, p2, p3]
          refine tk 9 rfl hH ?_
          simp only [Act.put, p1, p2, p3]
          refine tk 10 rfl hH ?_
          simp only [Act.put, p1, p2, p3]
          refine tk 11 rfl hH ?_
          simp only [Act.put, p1, p2, p3]
          refine tk 12 rfl hH ?_
          simp only [Act.put, p1, p2, p3]
          refine tk 13 rfl hH ?_
          simp only [Act.put, p1, p2, p3]
          refine tk 14 rfl hH ?_ (by intro w h; have c0 := h.2.1.cell (kk * 2) _ CK.out.1; clear h; go_simp; try with_reducible rfl)
          simp only [Act.put, p1, p2, p3]
          refine tk 15 rfl hH ?_
          simp only [Act.put, p1, p2, p3]
          refine tk 16 rfl hH ?_
          simp only [Act.put, p1, p2, p3]
          refine tk 17 rfl hH ?_ (by intro w h; have c0 := h.2.2 2 _ rfl; have c1 := h.2.2 3 _ rfl; have c2 := h.2.2 4 _ rfl; clear h; go_simp; try with_reducible rfl)
          simp only [Act.put, p1, p2, p3]
          refine tk 18 rfl hH ?_
          simp only [Act.put, p1, p2, p3]
          refine tk 19 rfl hH ?_
          simp only [Act.put, p1, p2, p3]
          refine tk 20 rfl hH ?_
          simp only [Act.put, p1, p2, p3]
          refine wpAnyH_done (by kernel_rfl) ?_ _
          have hM9 : Hid _ := hid (hM.out.born [.int .i64 10, .int .i64 (i : Nat)] 67 rfl)
          go_wp2
          go_ret2
          exact ⟨W.heap.size, rfl, by rw [HSZ.out]; exact hM.out.le, hM9.out.at 0 rfl, hM9.out.below⟩
        · clear hor he hwf hk
          by_cases h1 : kd = 1
          · subst kd
            clear h2 h3
            have RA : Hid (W.rangeAt b (off + i * 9) (el 1 th o k x cc y wh st)) := hrow
            clear hrow
            obtain ⟨be, hbe⟩ : ∃ q, q = W.heap.size := ⟨_, rfl⟩
            have hOl : Hid (∀ gz, (u4).ownBlock = some gz → gz ≠ be) := fun gz hg => by have := (hO.out.lt gz hg).2; omega
            have HBE : Hid _ := hbe
            clear hbe
            go_wp2_with (first
              | (refine lO rfl RA.out rfl (rwEv 1 th o k x cc y wh st) ?_; clear RA)
              | (rw [← HBE.out]
                 replace hS := hid (hS.out.new (.cells [.int .i64 0, .int .i64 0, .int .i64 0, .int .i64 0, .int .i64 0, .int .i64 0, .int .i64 0, .int .i64 0, .int .i64 0].toArray 56))
                 replace hO := hid (hO.out.new (.cells [.int .i64 0, .int .i64 0, .int .i64 0, .int .i64 0, .int .i64 0, .int .i64 0, .int .i64 0, .int .i64 0, .int .i64 0].toArray 56))
                 replace hM := hid (hM.out.born [.int .i64 0, .int .i64 0, .int .i64 0, .int .i64 0, .int .i64 0, .int .i64 0, .int .i64 0, .int .i64 0, .int .i64 0] 56 HBE.out)
                 refine sR rfl (hM.out.at 0 rfl) rfl ((rwEv 0 0 0 0 0 0 0 0 0).len (rwEv 1 th o k x cc y wh st)) (rwEv 1 th o k x cc y wh st) ?_
                 replace hS := hid (hS.out.asideL (hM.out.ne 1 0 rfl rfl (by decide)) 0 (el 1 th o k x cc y wh st))
                 replace hO := hid (hO.out.asideL hOl.out 0 (el 1 th o k x cc y wh st))
                 replace hM := hid (hM.out.put 0 rfl (el 1 th o k x cc y wh st) ((rwEv 0 0 0 0 0 0 0 0 0).len (rwEv 1 th o k x cc y wh st)))
                 generalize World.setCells _ _ _ _ = W at hM hS hO ⊢
                 clear HBE
                 have LK : Hid _ := hS.out.look mapi_desc zero_int HW.out (mfn_some hop)
                 have c1 := hM.out.cell 0 0 rfl rfl
                 have c2 := hM.out.cell 0 1 rfl rfl)
              | (at_lookup
                 refine wpList_look rfl _ _ _ rfl rfl rfl LK.out ?_))
            clear c1 c2
            replace hM := hid (hM.out.drew)
            replace hS := hid (hS.out.drew)
            replace hO := hid (hO.out.drew)
            refine wp_region_held_drew (S := fun w' => Bo w' be (el 1 th o k x cc y wh st)) (by kernel_rfl) (hM.out.at 0 rfl) (fun hH => ?_)
            generalize World.drew _ = W at hM hH hS hO ⊢
            refine tk 0 rfl hH ?_
            simp only [Act.put, p1, p2, p3]
            refine tk 1 rfl hH ?_ (by intro w h; have c0 := h.at 0 rfl; clear h; go_simp; try with_reducible rfl)
            simp only [Act.put, p1, p2, p3]
            refine tk 2 rfl hH ?_
            simp only [Act.put, p1, p2, p3]
            refine tk 3 rfl hH ?_
            simp only [Act.put, p1, p2, p3]
            refine tkN 4 rfl hH ?_
            simp only [Act.put, p1, p2, p3]
            refine tk 5 rfl hH ?_
            simp only [Act.put, p1, p2, p3]
            refine tk 6 rfl hH ?_
            simp only [Act.put, p1, p2, p3]
            refine tkN 7 rfl hH ?_
            simp only [Act.put, p1, p2, p3]
            refine tkN 8 rfl hH ?_
            simp only [Act.put, p1, p2, p3]
            refine tkN 9 rfl hH ?_
            simp only [Act.put, p1, p2, p3]
            refine tkN 10 rfl hH ?_
            simp only [Act.put, p1, p2, p3]
            refine tkN 11 rfl hH ?_
            simp only [Act.put, p1, p2, p3]
            refine tkN 12 rfl hH ?_
            simp only [Act.put, p1, p2, p3]
            refine tkN 13 rfl hH ?_
            simp only [Act.put, p1, p2, p3]
            refine tkN 14 rfl hH ?_
            simp only [Act.put, p1, p2, p3]
            refine tkN 15 rfl hH ?_
            simp only [Act.put, p1, p2, p3]
            refine tkN 16 rfl hH ?_
            simp only [Act.put, p1, p2, p3]
            refine tkN 17 rfl hH ?_
            simp only [Act.put, p1, p2, p3]
            refine tkN 18 rfl hH ?_
            simp only [Act.put, p1, p2, p3]
            refine tk 19 rfl hH ?_
            simp only [Act.put, p1, p2, p3]
            refine tk 20 rfl hH ?_
            simp only [Act.put, p1, p2, p3]
            refine wpAnyH_done (by kernel_rfl) ?_ _
            have hM9 : Hid _ := hid (hM.out.born [.int .i64 10, .int .i64 (i : Nat)] 67 rfl)
            go_wp2
            go_ret2
            exact ⟨W.heap.size, rfl, by rw [HSZ.out]; exact hM.out.le, hM9.out.at 0 rfl, hM9.out.below⟩
          · have k1 : (kd == 1) = false := beq_eq_false_iff_ne.2 h1
            have k2 : (kd == 2) = false := beq_eq_false_iff_ne.2 h2
            have k3 : (kd == 3) = false := beq_eq_false_iff_ne.2 h3
            clear h1 h2 h3
            have RA : Hid (W.rangeAt b (off + i * 9) (el kd th o k x cc y wh st)) := hrow
            clear hrow
            obtain ⟨be, hbe⟩ : ∃ q, q = W.heap.size := ⟨_, rfl⟩
            have hOl : Hid (∀ gz, (u4).ownBlock = some gz → gz ≠ be) := fun gz hg => by have := (hO.out.lt gz hg).2; omega
            have HBE : Hid _ := hbe
            clear hbe
            go_wp2_with (first
              | (refine lO rfl RA.out rfl (rwEv kd th o k x cc y wh st) ?_; clear RA)
              | (rw [← HBE.out]
                 replace hS := hid (hS.out.new (.cells [.int .i64 0, .int .i64 0, .int .i64 0, .int .i64 0, .int .i64 0, .int .i64 0, .int .i64 0, .int .i64 0, .int .i64 0].toArray 56))
                 replace hO := hid (hO.out.new (.cells [.int .i64 0, .int .i64 0, .int .i64 0, .int .i64 0, .int .i64 0, .int .i64 0, .int .i64 0, .int .i64 0, .int .i64 0].toArray 56))
                 replace hM := hid (hM.out.born [.int .i64 0, .int .i64 0, .int .i64 0, .int .i64 0, .int .i64 0, .int .i64 0, .int .i64 0, .int .i64 0, .int .i64 0] 56 HBE.out)
                 refine sR rfl (hM.out.at 0 rfl) rfl ((rwEv 0 0 0 0 0 0 0 0 0).len (rwEv kd th o k x cc y wh st)) (rwEv kd th o k x cc y wh st) ?_
                 replace hS := hid (hS.out.asideL (hM.out.ne 1 0 rfl rfl (by decide)) 0 (el kd th o k x cc y wh st))
                 replace hO := hid (hO.out.asideL hOl.out 0 (el kd th o k x cc y wh st))
                 replace hM := hid (hM.out.put 0 rfl (el kd th o k x cc y wh st) ((rwEv 0 0 0 0 0 0 0 0 0).len (rwEv kd th o k x cc y wh st)))
                 generalize World.setCells _ _ _ _ = W at hM hS hO ⊢
                 clear HBE
                 have LK : Hid _ := hS.out.look mapi_desc zero_int HW.out (mfn_some hop)
                 have c1 := hM.out.cell 0 0 rfl rfl
                 have c2 := hM.out.cell 0 1 rfl rfl)
              | (at_lookup
                 refine wpList_look rfl _ _ _ rfl rfl rfl LK.out ?_))
            clear c1 c2
            replace hM := hid (hM.out.drew)
            replace hS := hid (hS.out.drew)
            replace hO := hid (hO.out.drew)
            refine wp_region_held_drew (S := fun w' => Bo w' be (el kd th o k x cc y wh st)) (by kernel_rfl) (hM.out.at 0 rfl) (fun hH => ?_)
            generalize World.drew _ = W at hM hH hS hO ⊢
            refine tk 0 rfl hH ?_
            simp only [Act.put, p1, p2, p3]
            refine tk 1 rfl hH ?_ (by intro w h; have c0 := h.at 0 rfl; clear h; go_simp; try with_reducible rfl)
            simp only [Act.put, p1, p2, p3]
            refine tk 2 rfl hH ?_
            simp only [Act.put, p1, p2, p3]
            refine tk 3 rfl hH ?_
            simp only [Act.put, p1, p2, p3]
            refine tkN 4 rfl hH ?_
            simp only [Act.put, p1, p2, p3]
            refine tk 5 rfl hH ?_
            simp only [Act.put, p1, p2, p3]
            refine tk 6 rfl hH ?_
            simp only [Act.put, p1, p2, p3]
            refine tkN 7 rfl hH ?_
            simp only [Act.put, p1, p2, p3]
            refine tkN 8 rfl hH ?_
            simp only [Act.put, p1, p2, p3]
            refine tkN 9 rfl hH ?_
            simp only [Act.put, p1, p2, p3]
            refine tkN 10 rfl hH ?_
            simp only [Act.put, p1, p2, p3]
            refine tkN 11 rfl hH ?_
            simp only [Act.put, p1, p2, p3]
            refine tkN 12 rfl hH ?_
            simp only [Act.put, p1, p2, p3]
            refine tkN 13 rfl hH ?_
            simp only [Act.put, p1, p2, p3]
            refine tkN 14 rfl hH ?_
            simp only [Act.put, p1, p2, p3]
            refine tkN 15 rfl hH ?_
            simp only [Act.put, p1, p2, p3]
            refine tkN 16 rfl hH ?_
            simp only [Act.put, p1, p2, p3]
            refine tkN 17 rfl hH ?_
            simp only [Act.put, p1, p2, p3]
            refine tkN 18 rfl hH ?_
            simp only [Act.put, p1, p2, p3]
            refine tk 19 rfl hH ?_
            simp only [Act.put, p1, p2, p3]
            refine tk 20 rfl hH ?_
            simp only [Act.put, p1, p2, p3]
            refine wpAnyH_done (by kernel_rfl) ?_ _
            have hM9 : Hid _ := hid (hM.out.born [.int .i64 10, .int .i64 (i : Nat)] 67 rfl)
            go_wp2
            go_ret2
            exact ⟨W.heap.size, rfl, by rw [HSZ.out]; exact hM.out.le, hM9.out.at 0 rfl, hM9.out.below⟩
theorem callsOf_yes {v : Value} {n : Nat} {h : Nat → EV} {fin : List CC} {w : World} (E : Ev w v n h) (hn : n ≤ 1000000) (hO : callsF h n = some fin) :
    Calls Tryz.prog 39 #[v] w (CallsY w fin) := by
  rcases id E with ⟨h0, a, c, hv, ha⟩ | ⟨b, off, c, hv, h0, hc, _, _⟩
  · subst hv h0
    obtain rfl : fin = [] := (Option.some.inj hO).symm
    cases a with
    | none => obtain rfl := ha rfl; exact callsOf_nil w
    | some a => exact callsOf_none a c w
  · subst hv; exact callsOf_some h0 hc hn hO w E
theorem callsOf_not {v : Value} {n m : Nat} {h : Nat → EV} {fin : List CC} {w : World} (E : Ev w v n h) (hn : n ≤ 1000000) (hm : m < n) (hO : callsF h m = some fin) (hB : stepC h m fin = none) :
    Calls Tryz.prog 39 #[v] w (CallsN w m) := by
  rcases id E with ⟨h0, a, c, hv, ha⟩ | ⟨b, off, c, hv, h0, hc, _, _⟩
  · omega
  · subst hv; exact callsOf_bad h0 hc hn hm hO hB w E
end Go.Proofs.YteogbpaaacmllabGreatDoor.Tab
namespace Go.Proofs.YteogbpaaacmllabGreatDoor.Tab
set_option maxRecDepth 20000
open Go.RowKit
set_option linter.unusedVariables false

theorem Ev.form {w : World} {v : Value} {n : Nat} {h : Nat → EV} (E : Ev w v n h) : ∃ a c, v = .slice a n c := by
  rcases E with ⟨h, a, c, e, _⟩ | ⟨b, off, c, e, _⟩
  · exact ⟨a, c, h ▸ e⟩
  · exact ⟨_, c, e⟩
theorem Ev.some {w : World} {a : Option Addr} {c n : Nat} {h : Nat → EV} (E : Ev w (.slice a n c) n h) (hn : 0 < n) : ∃ b off, a = some ⟨b, off, none⟩ ∧ n ≤ c := by
  rcases E with ⟨h, _⟩ | ⟨b, off, c2, hv, _, hc, _⟩
  · omega
  · injection hv with e1 e2 e3
    exact ⟨b, off, e1, e3 ▸ hc⟩
def Ret (w : World) (v : Value) (e : Ending) (w' : World) : Prop := e = .returned v ∧ Below w.heap.size w w'
def errV (c : Int) : Value := .iface 59 (.int .i64 c)
def ordV (b : Bool) : Value := if b then .nilIface else errV 6
set_option maxHeartbeats 2000000 in
theorem fits_order {ve vd : Value} {n k : Nat} {h : Nat → EV} {cs : List CC} {w : World} (E : Ev w ve n h) (hn : n ≤ 1000000) (hk : k < n) (e1 : callsF h k = some cs) (e2 : stepC h k cs = none) :
    Calls Tryz.prog 21 #[ve, vd] w (fun e w' => ∃ b, e = .returned (atV b) ∧ w.heap.size ≤ b ∧ Bo w' b [.int .i64 10, .int .i64 (k : Nat)] ∧ Below w.heap.size w w') := by
  have CO : Hid _ := hid (callsOf_not E hn hk e1 e2)
  clear E hn hk e1 e2
  have hM : Hid _ := (Ms.nil w)
  go_enter Tryz.func21, Tryz.ntmps21
  go_wp2_with fail
  refine (CO.out).mono ?_
  rintro e W ⟨b, rfl, h1, h2, h3⟩
  have H : Hid _ := hid (And.intro h1 (And.intro h2 h3))
  clear h1 h2 h3 hM
  unfold atV
  go_wp2
  go_ret
  exact ⟨b, rfl, H.out.1, H.out.2.1, H.out.2.2⟩
set_option maxHeartbeats 8000000 in
theorem fits_ans {vea vda : Option Addr} {vec vdc n m : Nat} {h : Nat → EV} {q : Nat → DD} {cs : List CC} {c : Int} (h0 : 0 < cs.length) (ea : ansF h q m cs cs.length = .error c) (w : World) (E : Ev w (.slice vea n vec) n h) (D : Dq w (.slice vda m vdc) m q) (hn : n ≤ 1000000) (hm : m ≤ 1000000) (hwt : ∀ i, i < m → (Lit.int .i64 (q i).t).wf = true) (hcs : callsF h n = some cs) :
    Calls Tryz.prog 21 #[.slice vea n vec, .slice vda m vdc] w (Ret w (errV c)) := by
  have CO : Hid _ := hid (callsOf_yes E hn hcs)
  have GG : Hid (GC h n cs) := GC.of hcs
  have HE : Hid _ := hid E
  have HD : Hid _ := hid D
  have HW : Hid _ := hwt
  have HN : Hid (n ≤ 1000000 ∧ m ≤ 1000000) := ⟨hn, hm⟩
  clear E D hwt hcs
  obtain ⟨kb, blb, hk, f1, f2⟩ := ansF_bad ea
  have KB : Hid _ := hid (And.intro hk (And.intro f1 f2))
  clear hk f1 f2 ea
  obtain ⟨eb, eo, rfl, hec⟩ := HE.out.some (by have := GG.out.len; omega)
  have HEC : Hid (n ≤ vec) := hec
  clear hec
  have hM : Hid _ := (Ms.nil w)
  go_enter Tryz.func21, Tryz.ntmps21
  go_wp2_with fail
  refine (CO.out).mono ?_
  rintro e W ⟨vc, rfl, hoc, hb⟩
  obtain ⟨g, cap, rfl, hgB, hcap, hB⟩ : ∃ g cap, vc = .slice (some ⟨g, 0, none⟩) cs.length cap ∧ w.heap.size ≤ g ∧ cs.length ≤ cap ∧ Bo W g (ccs cs) := by
    rcases hoc.form with ⟨_, e⟩ | e
    · rw [e] at h0; cases h0
    · exact e
  replace hM := hid (hM.out.laterB hb hgB hB)
  have HCAP : Hid (cs.length ≤ cap) := hcap
  have H0 : Hid (0 < cs.length) := h0
  clear hoc hb hgB hB hcap h0
  have mk := mkby g m hm
  obtain ⟨bb, hbb⟩ : ∃ q, q = W.heap.size := ⟨_, rfl⟩
  replace hM := hid (hM.out.born (byr g (List.replicate m none)) 122 hbb)
  have HBB : Hid _ := hbb
  clear hbb
  go_wp2_with fail
  clear mk
  rw [← HBB.out]
  generalize World.alloc _ _ = W at hM ⊢
  refine (giveA_bad hM.out (Y := ⟨Or.inr ⟨cap, rfl, HCAP.out, List.mem_singleton.2 rfl⟩, GG.out, HE.out, HD.out, HN.out⟩) (List.mem_singleton.2 rfl) HCAP.out HEC.out KB.out.1 KB.out.2.1 KB.out.2.2).mono ?_
  rintro e W ⟨rfl, bl2, hM⟩
  have hM := hid hM
  go_wp2
  go_ret
  exact ⟨rfl, hM.out.below⟩
set_option maxHeartbeats 8000000 in
theorem fits_open {vea vda : Option Addr} {vec vdc n m : Nat} {h : Nat → EV} {q : Nat → DD} {cs : List CC} {c : Int} {bl : List (Option Nat)} (h0 : 0 < cs.length) (ea : ansF h q m cs cs.length = .ok bl) (eo : opnF h q cs bl m = .error c) (w : World) (E : Ev w (.slice vea n vec) n h) (D : Dq w (.slice vda m vdc) m q) (hn : n ≤ 1000000) (hm : m ≤ 1000000) (hwt : ∀ i, i < m → (Lit.int .i64 (q i).t).wf = true) (hcs : callsF h n = some cs) :
    Calls Tryz.prog 21 #[.slice vea n vec, .slice vda m vdc] w (Ret w (errV c)) := by
  have CO : Hid _ := hid (callsOf_yes E hn hcs)
  have GG : Hid (GC h n cs) := GC.of hcs
  have HE : Hid _ := hid E
  have HD : Hid _ := hid D
  have HW : Hid _ := hwt
  have HN : Hid (n ≤ 1000000 ∧ m ≤ 1000000) := ⟨hn, hm⟩
  clear E D hwt hcs
  obtain ⟨kb, sb, hk, f1, f2⟩ := opnF_bad eo
  have KB : Hid _ := hid (And.intro hk (And.intro f1 f2))
  have hm0 : 0 < m := by omega
  clear hk f1 f2 eo
  have EA : Hid _ := ea
  have HLN : Hid (bl.length = m) := ansF_len ea
  clear ea
  obtain ⟨eb, eof, rfl, hec⟩ := HE.out.some (by have := GG.out.len; omega)
  have HEC : Hid (n ≤ vec) := hec
  clear hec
  obtain ⟨db, dof, rfl, hdc⟩ := HD.out.some hm0
  have HDC : Hid (m ≤ vdc) := hdc
  clear hdc hm0
  have hM : Hid _ := (Ms.nil w)
  go_enter Tryz.func21, Tryz.ntmps21
  go_wp2_with fail
  refine (CO.out).mono ?_
  rintro e W ⟨vc, rfl, hoc, hb⟩
  obtain ⟨g, cap, rfl, hgB, hcap, hB⟩ : ∃ g cap, vc = .slice (some ⟨g, 0, none⟩) cs.length cap ∧ w.heap.size ≤ g ∧ cs.length ≤ cap ∧ Bo W g (ccs cs) := by
    rcases hoc.form with ⟨_, e⟩ | e
    · rw [e] at h0; cases h0
    · exact e
  replace hM := hid (hM.out.laterB hb hgB hB)
  have HCAP : Hid (cs.length ≤ cap) := hcap
  have H0 : Hid (0 < cs.length) := h0
  clear hoc hb hgB hB hcap h0
  have mk := mkby g m hm
  obtain ⟨bb, hbb⟩ : ∃ q, q = W.heap.size := ⟨_, rfl⟩
  replace hM := hid (hM.out.born (byr g (List.replicate m none)) 122 hbb)
  have HBB : Hid _ := hbb
  clear hbb
  go_wp2_with fail
  clear mk
  rw [← HBB.out]
  generalize World.alloc _ _ = W at hM ⊢
  refine (giveA_some hM.out (Y := ⟨Or.inr ⟨cap, rfl, HCAP.out, List.mem_singleton.2 rfl⟩, GG.out, HE.out, HD.out, HN.out⟩) (List.mem_singleton.2 rfl) HCAP.out HEC.out EA.out).mono ?_
  rintro e W ⟨rfl, hM⟩
  have hM := hid hM
  go_wp2_with fail
  refine (giveO_bad hM.out (Y := ⟨Or.inr ⟨cap, rfl, HCAP.out, List.mem_singleton.2 rfl⟩, GG.out, HE.out, HD.out, HN.out⟩) (List.mem_singleton.2 rfl) HCAP.out HEC.out HDC.out HLN.out HW.out KB.out.1 KB.out.2.1 KB.out.2.2).mono ?_
  rintro e W ⟨rfl, bl2, hM⟩
  have hM := hid hM
  go_wp2
  go_ret
  exact ⟨rfl, hM.out.below⟩
set_option maxHeartbeats 8000000 in
theorem fits_end {vea vda : Option Addr} {vec vdc n m : Nat} {h : Nat → EV} {q : Nat → DD} {cs : List CC} {bl : List (Option Nat)} {s : BU} (h0 : 0 < cs.length) (hm0 : 0 < m) (ea : ansF h q m cs cs.length = .ok bl) (eo : opnF h q cs bl m = .ok s) (w : World) (E : Ev w (.slice vea n vec) n h) (D : Dq w (.slice vda m vdc) m q) (hn : n ≤ 1000000) (hm : m ≤ 1000000) (hwt : ∀ i, i < m → (Lit.int .i64 (q i).t).wf = true) (hcs : callsF h n = some cs) :
    Calls Tryz.prog 21 #[.slice vea n vec, .slice vda m vdc] w (Ret w (ordV (ordB cs s.1 m))) := by
  have CO : Hid _ := hid (callsOf_yes E hn hcs)
  have GG : Hid (GC h n cs) := GC.of hcs
  have HE : Hid _ := hid E
  have HD : Hid _ := hid D
  have HW : Hid _ := hwt
  have HN : Hid (n ≤ 1000000 ∧ m ≤ 1000000) := ⟨hn, hm⟩
  clear E D hwt hcs
  have HLN : Hid (bl.length = m) := ansF_len ea
  have hall := opnF_all (by rw [HLN.out]; exact Nat.le_refl _) eo
  have hlt := opnF_lt (ansF_lt (Nat.le_refl _) ea) (by rw [HLN.out]; exact Nat.le_refl _) eo
  have HALL : Hid (∀ j, j < m → ∃ k, s.1[j]? = some (some k)) := hall
  have HU : Hid (∀ j, j < m → uof s.1 j < cs.length) := fun j hj => by obtain ⟨k, hk⟩ := hall j hj; rw [uof_of hk]; exact hlt j k hk
  clear hall hlt
  have EA : Hid _ := ea
  have EO : Hid _ := eo
  clear ea eo
  obtain ⟨eb, eof, rfl, hec⟩ := HE.out.some (by have := GG.out.len; omega)
  have HEC : Hid (n ≤ vec) := hec
  clear hec
  obtain ⟨db, dof, rfl, hdc⟩ := HD.out.some hm0
  have HDC : Hid (m ≤ vdc) := hdc
  clear hdc hm0
  have hM : Hid _ := (Ms.nil w)
  go_enter Tryz.func21, Tryz.ntmps21
  go_wp2_with fail
  refine (CO.out).mono ?_
  rintro e W ⟨vc, rfl, hoc, hb⟩
  obtain ⟨g, cap, rfl, hgB, hcap, hB⟩ : ∃ g cap, vc = .slice (some ⟨g, 0, none⟩) cs.length cap ∧ w.heap.size ≤ g ∧ cs.length ≤ cap ∧ Bo W g (ccs cs) := by
    rcases hoc.form with ⟨_, e⟩ | e
    · rw [e] at h0; cases h0
    · exact e
  replace hM := hid (hM.out.laterB hb hgB hB)
  have HCAP : Hid (cs.length ≤ cap) := hcap
  have H0 : Hid (0 < cs.length) := h0
  clear hoc hb hgB hB hcap h0
  have mk := mkby g m hm
  obtain ⟨bb, hbb⟩ : ∃ q, q = W.heap.size := ⟨_, rfl⟩
  replace hM := hid (hM.out.born (byr g (List.replicate m none)) 122 hbb)
  have HBB : Hid _ := hbb
  clear hbb
  go_wp2_with fail
  clear mk
  rw [← HBB.out]
  generalize World.alloc _ _ = W at hM ⊢
  refine (giveA_some hM.out (Y := ⟨Or.inr ⟨cap, rfl, HCAP.out, List.mem_singleton.2 rfl⟩, GG.out, HE.out, HD.out, HN.out⟩) (List.mem_singleton.2 rfl) HCAP.out HEC.out EA.out).mono ?_
  rintro e W ⟨rfl, hM⟩
  have hM := hid hM
  go_wp2_with fail
  refine (giveO_some hM.out (Y := ⟨Or.inr ⟨cap, rfl, HCAP.out, List.mem_singleton.2 rfl⟩, GG.out, HE.out, HD.out, HN.out⟩) (List.mem_singleton.2 rfl) HCAP.out HEC.out HDC.out HLN.out HW.out EO.out).mono ?_
  rintro e W ⟨rfl, hM⟩
  have hM := hid hM
  go_wp2_with fail
  have hbbl := (hM.out.at 0 rfl).lt
  have IO := inOrder_is (b := bb) (m := m) (cap := m) (g := g) (N := cs.length) (A := fun k => (cg cs k).1) (Z := fun k => zp (cg cs k).2) (u := uof s.1) (w := W) HN.out.2 HU.out hbbl (Or.inl (hM.out.at 1 rfl).lt) (fun j hj => by
    obtain ⟨k, hk⟩ := HALL.out j hj
    rw [uof_of hk]
    exact hM.out.cell 0 j rfl (byr_get hk)) (fun k hk => by
    have hc : cs[k]? = some (cs[k]) := List.getElem?_eq_getElem hk
    rw [show cg cs k = cs[k] from cg_of hc]
    exact ⟨hM.out.cell 1 (k * 2) rfl (ccs_get cs k _ hc).1, hM.out.cell 1 (k * 2 + 1) rfl (ccs_get cs k _ hc).2⟩)
  refine IO.mono ?_
  rintro e W ⟨rfl, hb⟩
  replace hM := hid (hM.out.later hb)
  clear hb IO hbbl
  have hr : Hid ((if (ost (fun k => (cg cs k).1) (fun k => zp (cg cs k).2) (fun x => uof s.1 (m - 1 - x)) (List.range m)).1 then (Value.nilIface) else .iface 59 (.int .i64 6)) = ordV (ordB cs s.1 m)) := rfl
  generalize (if (ost (fun k => (cg cs k).1) (fun k => zp (cg cs k).2) (fun x => uof s.1 (m - 1 - x)) (List.range m)).1 then (Value.nilIface) else .iface 59 (.int .i64 6)) = r at hr ⊢
  go_wp2
  go_ret
  exact ⟨congrArg Ending.returned hr.out, hM.out.below⟩
set_option maxHeartbeats 8000000 in
theorem fits_end0 {vea vda : Option Addr} {vec vdc n m : Nat} {h : Nat → EV} {q : Nat → DD} {cs : List CC} {bl : List (Option Nat)} {s : BU} (h0 : 0 < cs.length) (hm0 : m = 0) (ea : ansF h q m cs cs.length = .ok bl) (eo : opnF h q cs bl m = .ok s) (w : World) (E : Ev w (.slice vea n vec) n h) (D : Dq w (.slice vda m vdc) m q) (hn : n ≤ 1000000) (hm : m ≤ 1000000) (hwt : ∀ i, i < m → (Lit.int .i64 (q i).t).wf = true) (hcs : callsF h n = some cs) :
    Calls Tryz.prog 21 #[.slice vea n vec, .slice vda m vdc] w (Ret w (ordV (ordB cs s.1 m))) := by
  have CO : Hid _ := hid (callsOf_yes E hn hcs)
  have GG : Hid (GC h n cs) := GC.of hcs
  have HE : Hid _ := hid E
  have HD : Hid _ := hid D
  have HW : Hid _ := hwt
  have HN : Hid (n ≤ 1000000 ∧ m ≤ 1000000) := ⟨hn, hm⟩
  clear E D hwt hcs
  have HLN : Hid (bl.length = m) := ansF_len ea
  have hall := opnF_all (by rw [HLN.out]; exact Nat.le_refl _) eo
  have hlt := opnF_lt (ansF_lt (Nat.le_refl _) ea) (by rw [HLN.out]; exact Nat.le_refl _) eo
  have HALL : Hid (∀ j, j < m → ∃ k, s.1[j]? = some (some k)) := hall
  have HU : Hid (∀ j, j < m → uof s.1 j < cs.length) := fun j hj => by obtain ⟨k, hk⟩ := hall j hj; rw [uof_of hk]; exact hlt j k hk
  clear hall hlt
  have EA : Hid _ := ea
  have EO : Hid _ := eo
  clear ea eo
  obtain ⟨eb, eof, rfl, hec⟩ := HE.out.some (by have := GG.out.len; omega)
  have HEC : Hid (n ≤ vec) := hec
  clear hec
  subst hm0
  have hM : Hid _ := (Ms.nil w)
  go_enter Tryz.func21, Tryz.ntmps21
  go_wp2_with fail
  refine (CO.out).mono ?_
  rintro e W ⟨vc, rfl, hoc, hb⟩
  obtain ⟨g, cap, rfl, hgB, hcap, hB⟩ : ∃ g cap, vc = .slice (some ⟨g, 0, none⟩) cs.length cap ∧ w.heap.size ≤ g ∧ cs.length ≤ cap ∧ Bo W g (ccs cs) := by
    rcases hoc.form with ⟨_, e⟩ | e
    · rw [e] at h0; cases h0
    · exact e
  replace hM := hid (hM.out.laterB hb hgB hB)
  have HCAP : Hid (cs.length ≤ cap) := hcap
  have H0 : Hid (0 < cs.length) := h0
  clear hoc hb hgB hB hcap h0
  have mk : ∀ w : World, (Instr.makeSlice 88 (.int .i64 0) (.int .i64 0)).run Tryz.prog w = .ok (.slice (some ⟨w.heap.size, 0, none⟩) 0 0) (w.alloc (.cells (byr g []).toArray 122)) := mkby g 0 (by decide)
  obtain ⟨bb, hbb⟩ : ∃ q, q = W.heap.size := ⟨_, rfl⟩
  replace hM := hid (hM.out.born (byr g []) 122 hbb)
  have HBB : Hid _ := hbb
  clear hbb
  go_wp2_with fail
  clear mk
  rw [← HBB.out]
  generalize World.alloc _ _ = W at hM ⊢
  refine (giveA_some hM.out (Y := ⟨Or.inr ⟨cap, rfl, HCAP.out, List.mem_singleton.2 rfl⟩, GG.out, HE.out, HD.out, HN.out⟩) (List.mem_singleton.2 rfl) HCAP.out HEC.out EA.out).mono ?_
  rintro e W ⟨rfl, hM⟩
  have hM := hid hM
  go_wp2_with fail
  refine (giveO_m0 (fin := s) hM.out (Y := ⟨Or.inr ⟨cap, rfl, HCAP.out, List.mem_singleton.2 rfl⟩, GG.out, HE.out, HD.out, HN.out⟩) (List.mem_singleton.2 rfl) HCAP.out HEC.out).mono ?_
  rintro e W ⟨rfl, hM⟩
  have hM := hid hM
  obtain rfl : s = (bl, []) := by have h := EO.out; injection h with h; exact h.symm
  go_wp2_with fail
  have hbbl := (hM.out.at 0 rfl).lt
  have IO := inOrder_is (b := bb) (m := 0) (cap := 0) (g := g) (N := cs.length) (A := fun k => (cg cs k).1) (Z := fun k => zp (cg cs k).2) (u := uof bl) (w := W) HN.out.2 HU.out hbbl (Or.inl (hM.out.at 1 rfl).lt) (fun j hj => by
    obtain ⟨k, hk⟩ := HALL.out j hj
    rw [uof_of hk]
    exact hM.out.cell 0 j rfl (byr_get hk)) (fun k hk => by
    have hc : cs[k]? = some (cs[k]) := List.getElem?_eq_getElem hk
    rw [show cg cs k = cs[k] from cg_of hc]
    exact ⟨hM.out.cell 1 (k * 2) rfl (ccs_get cs k _ hc).1, hM.out.cell 1 (k * 2 + 1) rfl (ccs_get cs k _ hc).2⟩)
  refine IO.mono ?_
  rintro e W ⟨rfl, hb⟩
  replace hM := hid (hM.out.later hb)
  clear hb IO hbbl
  have hr : Hid ((if (ost (fun k => (cg cs k).1) (fun k => zp (cg cs k).2) (fun x => uof bl (0 - 1 - x)) (List.range 0)).1 then (Value.nilIface) else .iface 59 (.int .i64 6)) = ordV (ordB cs bl 0)) := rfl
  generalize (if (ost (fun k => (cg cs k).1) (fun k => zp (cg cs k).2) (fun x => uof bl (0 - 1 - x)) (List.range 0)).1 then (Value.nilIface) else .iface 59 (.int .i64 6)) = r at hr ⊢
  go_wp2
  go_ret
  exact ⟨congrArg Ending.returned hr.out, hM.out.below⟩
set_option maxHeartbeats 4000000 in
theorem fits_nil0 {vea vda : Option Addr} {vec vdc n : Nat} {h : Nat → EV} {q : Nat → DD} (w : World) (E : Ev w (.slice vea n vec) n h) (D : Dq w (.slice vda 0 vdc) 0 q) (hn : n ≤ 1000000) (hcs : callsF h n = some []) :
    Calls Tryz.prog 21 #[.slice vea n vec, .slice vda 0 vdc] w (Ret w .nilIface) := by
  have CO : Hid _ := hid (callsOf_yes E hn hcs)
  have HD : Hid _ := hid D
  clear E D hcs hn
  have hM : Hid _ := (Ms.nil w)
  go_enter Tryz.func21, Tryz.ntmps21
  go_wp2_with fail
  refine (CO.out).mono ?_
  rintro e W ⟨vc, rfl, hoc, hb⟩
  replace hM := hid (hM.out.later hb)
  obtain ⟨va, vcp, rfl⟩ := hoc.len
  simp only [List.length_nil]
  clear hoc hb
  have mk : ∀ w : World, (Instr.makeSlice 88 (.int .i64 0) (.int .i64 0)).run Tryz.prog w = .ok (.slice (some ⟨w.heap.size, 0, none⟩) 0 0) (w.alloc (.cells (byr 0 []).toArray 122)) := mkby 0 0 (by decide)
  obtain ⟨bb, hbb⟩ : ∃ q, q = W.heap.size := ⟨_, rfl⟩
  replace hM := hid (hM.out.born (byr 0 []) 122 hbb)
  have HBB : Hid _ := hbb
  clear hbb
  go_wp2_with fail
  clear mk
  rw [← HBB.out]
  generalize World.alloc _ _ = W at hM ⊢
  refine (giveA_nil _ _ hM.out).mono ?_
  rintro e W ⟨rfl, hM⟩
  have hM := hid hM
  go_wp2_with fail
  refine (giveO_nn _ hM.out).mono ?_
  rintro e W ⟨rfl, hM⟩
  have hM := hid hM
  go_wp2_with fail
  have hbbl := (hM.out.at 0 rfl).lt
  have IO := inOrder_is (b := bb) (m := 0) (cap := 0) (g := 0) (N := 0) (A := fun _ => 0) (Z := fun _ => 0) (u := fun _ => 0) (w := W) (by decide) (fun j hj => absurd hj (Nat.not_lt_zero _)) hbbl (Or.inr rfl) (fun j hj => absurd hj (Nat.not_lt_zero _)) (fun k hk => absurd hk (Nat.not_lt_zero _))
  refine IO.mono ?_
  rintro e W ⟨rfl, hb⟩
  replace hM := hid (hM.out.later hb)
  clear hb IO hbbl
  go_wp2
  go_ret
  exact ⟨rfl, hM.out.below⟩
set_option maxHeartbeats 4000000 in
theorem fits_nils {vea vda : Option Addr} {vec vdc n m : Nat} {h : Nat → EV} {q : Nat → DD} (w : World) (E : Ev w (.slice vea n vec) n h) (D : Dq w (.slice vda m vdc) m q) (hn : n ≤ 1000000) (hm0 : 0 < m) (hm : m ≤ 1000000) (hwt : ∀ i, i < m → (Lit.int .i64 (q i).t).wf = true) (hcs : callsF h n = some []) :
    Calls Tryz.prog 21 #[.slice vea n vec, .slice vda m vdc] w (Ret w (errV 8)) := by
  have CO : Hid _ := hid (callsOf_yes E hn hcs)
  have HD : Hid _ := hid D
  have HW : Hid _ := hwt
  have HM : Hid (0 < m ∧ m ≤ 1000000) := ⟨hm0, hm⟩
  obtain ⟨db, dof, rfl, hdc⟩ := HD.out.some hm0
  have HDC : Hid (m ≤ vdc) := hdc
  clear hdc hm0 hwt
  clear E D hcs hn
  have hM : Hid _ := (Ms.nil w)
  go_enter Tryz.func21, Tryz.ntmps21
  go_wp2_with fail
  refine (CO.out).mono ?_
  rintro e W ⟨vc, rfl, hoc, hb⟩
  replace hM := hid (hM.out.later hb)
  obtain ⟨va, vcp, rfl⟩ := hoc.len
  simp only [List.length_nil]
  clear hoc hb
  have mk := mkby 0 m hm
  obtain ⟨bb, hbb⟩ : ∃ q, q = W.heap.size := ⟨_, rfl⟩
  replace hM := hid (hM.out.born (byr 0 (List.replicate m none)) 122 hbb)
  have HBB : Hid _ := hbb
  clear hbb
  go_wp2_with fail
  clear mk
  rw [← HBB.out]
  generalize World.alloc _ _ = W at hM ⊢
  refine (giveA_nil _ _ hM.out).mono ?_
  rintro e W ⟨rfl, hM⟩
  have hM := hid hM
  go_wp2_with fail
  refine (giveO_ns _ hM.out HD.out HM.out.1 HM.out.2 HDC.out (by rw [List.getElem?_replicate, if_pos HM.out.1]) (HW.out 0 HM.out.1)).mono ?_
  rintro e W ⟨rfl, bl2, hM⟩
  have hM := hid hM
  go_wp2
  go_ret
  exact ⟨rfl, hM.out.below⟩
end Go.Proofs.YteogbpaaacmllabGreatDoor.Tab
namespace Go.Proofs.YteogbpaaacmllabGreatDoor.Tab
set_option maxRecDepth 20000
open Go.RowKit
set_option linter.unusedVariables false

/-- What Legal answers: the object behind all, or an error at the first deed that is another one. -/
def LegalY (w : World) (c : Nat → Nat) (e : Ending) (w' : World) : Prop := e = .returned (.tuple #[.agg (wl c).toArray, .nilIface]) ∧ Below w.heap.size w w'
def LegalN (w : World) (m : Nat) (e : Ending) (w' : World) : Prop := ∃ b, e = .returned (.tuple #[.agg (wl wz).toArray, atV b]) ∧ w.heap.size ≤ b ∧ Bo w' b [.int .i64 13, .int .i64 (m : Nat)] ∧ Below w.heap.size w w'
set_option maxHeartbeats 2000000 in
theorem legal_no {kind : Int} (h : ¬ (1 ≤ kind ∧ kind ≤ 6)) (w : World) (v : Value) :
    Calls Tryz.prog 11 #[.int .i64 kind, v] w (fun e w' => e = .returned (.tuple #[.agg (wl wz).toArray, .iface 59 (.int .i64 1)]) ∧ Below w.heap.size w w') := by
  have IS : Hid (∀ w : World, _) := obIs_no h
  clear h
  have hM : Hid _ := ((Ms.nil w).bornR wz_all.symm 37 (b := w.heap.size) rfl)
  go_enter Tryz.func11, Tryz.ntmps11
  go_wp2_with fail
  refine (IS.out _).mono ?_
  rintro e ux ⟨rfl, hw⟩
  rw [hw]; clear hw ux
  generalize World.alloc _ _ = W at hM ⊢
  generalize hsz : w.heap.size = n at hM ⊢
  clear hsz
  go_wp2_with (first
    | (refine sR rfl (hM.out.at 0 rfl) rfl ((rwC wz).len (rwC wz)) (rwC wz) ?_
       replace hM := hid (hM.out.put 0 rfl (wl wz) ((rwC wz).len (rwC wz)))
       generalize World.setCells _ _ _ _ = W at hM ⊢))
  exact bodyPost_ret (res1s Tryz.results11 (hM.out.at 0 rfl) (rwC wz) (.iface 59 (.int .i64 1))) rfl ⟨rfl, hM.out.below⟩
set_option maxHeartbeats 2000000 in
theorem legal_nil {kind : Nat} (h1 : 1 ≤ kind) (h6 : kind ≤ 6) (w : World) :
    Calls Tryz.prog 11 #[.int .i64 (kind : Nat), .slice none 0 0] w (LegalY w wz) := by
  have IS : Hid (∀ w : World, _) := obIs_yes (k := (kind : Nat)) (by omega) (by omega)
  clear h1 h6
  have hM : Hid _ := ((Ms.nil w).bornR wz_all.symm 37 (b := w.heap.size) rfl)
  go_enter Tryz.func11, Tryz.ntmps11
  go_wp2_with fail
  refine (IS.out _).mono ?_
  rintro e ux ⟨rfl, hw⟩
  rw [hw]; clear hw ux
  generalize World.alloc _ _ = W at hM ⊢
  generalize hsz : w.heap.size = n at hM ⊢
  clear hsz
  obtain ⟨bx1, hbx1⟩ : ∃ q, q = W.heap.size := ⟨_, rfl⟩
  replace hM := hid (hM.out.bornR wz_all.symm 37 (b := bx1) hbx1)
  have Hbx1 : Hid _ := hbx1
  clear hbx1
  go_wp2_with fail
  rw [← Hbx1.out]
  generalize World.alloc _ _ = W at hM ⊢
  go_loopg [19] 0 (fun gg s19 wt => wt = W ∧ s19 = .int .i64 0)
  case atStart => exact ⟨rfl, rfl⟩
  case round =>
    obtain ⟨hw, rfl⟩ := hrel
    rw [hw]; clear hw wr
    go_wp2_with (first
      | (refine lR rfl (hM.out.at 0 rfl) rfl (rwC wz) ?_)
      | (refine sR rfl (hM.out.at 1 rfl) rfl ((rwC wz).len (rwC wz)) (rwC wz) ?_
         replace hM := hid (hM.out.put 1 rfl (wl wz) ((rwC wz).len (rwC wz)))
         generalize World.setCells _ _ _ _ = W at hM ⊢))
    exact bodyPost_ret (res1s Tryz.results11 (hM.out.at 1 rfl) (rwC wz) (.nilIface)) rfl ⟨rfl, hM.out.below⟩
set_option maxHeartbeats 2000000 in
theorem legal_none {kind : Nat} (h1 : 1 ≤ kind) (h6 : kind ≤ 6) (a : Addr) (c : Nat) (w : World) :
    Calls Tryz.prog 11 #[.int .i64 (kind : Nat), .slice (some a) 0 c] w (LegalY w wz) := by
  have IS : Hid (∀ w : World, _) := obIs_yes (k := (kind : Nat)) (by omega) (by omega)
  clear h1 h6
  have hM : Hid _ := ((Ms.nil w).bornR wz_all.symm 37 (b := w.heap.size) rfl)
  go_enter Tryz.func11, Tryz.ntmps11
  go_wp2_with fail
  refine (IS.out _).mono ?_
  rintro e ux ⟨rfl, hw⟩
  rw [hw]; clear hw ux
  generalize World.alloc _ _ = W at hM ⊢
  generalize hsz : w.heap.size = n at hM ⊢
  clear hsz
  obtain ⟨bx1, hbx1⟩ : ∃ q, q = W.heap.size := ⟨_, rfl⟩
  replace hM := hid (hM.out.bornR wz_all.symm 37 (b := bx1) hbx1)
  have Hbx1 : Hid _ := hbx1
  clear hbx1
  go_wp2_with fail
  rw [← Hbx1.out]
  generalize World.alloc _ _ = W at hM ⊢
  go_loopg [19] 0 (fun gg s19 wt => wt = W ∧ s19 = .int .i64 0)
  case atStart => exact ⟨rfl, rfl⟩
  case round =>
    obtain ⟨hw, rfl⟩ := hrel
    rw [hw]; clear hw wr
    go_wp2_with (first
      | (refine lR rfl (hM.out.at 0 rfl) rfl (rwC wz) ?_)
      | (refine sR rfl (hM.out.at 1 rfl) rfl ((rwC wz).len (rwC wz)) (rwC wz) ?_
         replace hM := hid (hM.out.put 1 rfl (wl wz) ((rwC wz).len (rwC wz)))
         generalize World.setCells _ _ _ _ = W at hM ⊢))
    exact bodyPost_ret (res1s Tryz.results11 (hM.out.at 1 rfl) (rwC wz) (.nilIface)) rfl ⟨rfl, hM.out.below⟩
set_option maxHeartbeats 8000000 in
theorem legal_some {kind : Nat} (h1 : 1 ≤ kind) (h6 : kind ≤ 6) {b off c n : Nat} {q : Nat → DD} (h0 : 0 < n) (hc : n ≤ c) (hn : n ≤ 9223372036854775807) (hO : ∀ j, j < n → Ok1 (kind : Nat) q j) (w : World) (D : Dq w (.slice (some ⟨b, off, none⟩) n c) n q) :
    Calls Tryz.prog 11 #[.int .i64 (kind : Nat), .slice (some ⟨b, off, none⟩) n c] w (LegalY w (oi (kind : Nat) q n)) := by
  have IS : Hid (∀ w : World, _) := obIs_yes (k := (kind : Nat)) (by omega) (by omega)
  have HE : Hid _ := hid D.all
  clear D
  have OB : Hid (∀ i, i ≤ n → isOb (kind : Nat) (oi (kind : Nat) q i)) := fun i hi => oi_ob (by omega) (by omega) i fun j hj => hO j (by omega)
  have HO : Hid _ := hO
  clear hO
  have HC : Hid (n ≤ c ∧ n ≤ 9223372036854775807) := ⟨hc, hn⟩
  clear hc hn h0 h1 h6
  have hM : Hid _ := ((Ms.nil w).bornR wz_all.symm 37 (b := w.heap.size) rfl)
  go_enter Tryz.func11, Tryz.ntmps11
  go_wp2_with fail
  refine (IS.out _).mono ?_
  rintro e ux ⟨rfl, hw⟩
  rw [hw]; clear hw ux
  generalize World.alloc _ _ = W at hM ⊢
  generalize hsz : w.heap.size = n0 at hM ⊢
  have HSZ : Hid _ := hsz
  clear hsz
  obtain ⟨bx1, hbx1⟩ : ∃ q, q = W.heap.size := ⟨_, rfl⟩
  replace hM := hid (hM.out.bornR wz_all.symm 37 (b := bx1) hbx1)
  have Hbx1 : Hid _ := hbx1
  clear hbx1
  go_wp2_with fail
  rw [← Hbx1.out]
  generalize World.alloc _ _ = W at hM ⊢
  go_loopg [19] n (fun gg s19 wt => ∃ i : Nat, i ≤ n ∧ n - i ≤ gg ∧ s19 = .int .i64 i ∧ Hid (Ms n0 w wt [(bx1, wl (oi (kind : Nat) q i)), (n0, wl wz)] []))
  case atStart => exact ⟨0, by omega, by omega, rfl, hM⟩
  case round =>
    clear hM
    obtain ⟨i, hi, hgg, rfl, hM⟩ := hrel
    obtain ⟨W, rfl⟩ : ∃ q, q = wr := ⟨_, rfl⟩
    obtain ⟨ci, hci⟩ : ∃ c, c = oi (kind : Nat) q i := ⟨_, rfl⟩
    rw [← hci] at hM
    by_cases hlt : i < n
    · have hi1 : (i : Int) < (n : Int) := by omega
      have hi0 : (0 : Int) ≤ (i : Int) := by omega
      obtain ⟨t, o, k, x, cc, y, hq, hr⟩ := HE.out W hM.out.below i (by omega)
      have RA : Hid _ := hr
      clear hr
      have OK := (Ok1.at hq).1 (HO.out i hlt)
      obtain ⟨cn, hcn⟩ : ∃ c, c = oi (kind : Nat) q (i + 1) := ⟨_, rfl⟩
      have HCN : Hid _ := hcn
      have DO : Hid (∀ w : World, Calls Tryz.prog 26 #[.int .i64 (kind : Nat), .agg (wl ci).toArray, .agg #[.int .i64 o, .int .i64 k, .int .i64 x]] w (DidD w cn cc y)) := fun w => by
        have h := obDo_is (kind := (kind : Nat)) (OB.out i (by omega)) OK.1 w
        rw [OK.2.1, OK.2.2, ← oi_at hq, ← hci, ← hcn] at h
        exact h
      clear OK hcn hci hq
      obtain ⟨bd, hbd⟩ : ∃ q, q = W.heap.size := ⟨_, rfl⟩
      have HBD : Hid _ := hbd
      clear hbd
      go_wp2_with (first
        | (refine lO rfl RA.out rfl (rwD t o k x cc y) ?_)
        | (rw [← HBD.out]
           replace hM := hid (hM.out.born [.int .i64 0, .int .i64 0, .int .i64 0, .int .i64 0, .int .i64 0, .int .i64 0] 46 HBD.out)
           refine sR rfl (hM.out.at 0 rfl) rfl ((rwD 0 0 0 0 0 0).len (rwD t o k x cc y)) (rwD t o k x cc y) ?_
           replace hM := hid (hM.out.put 0 rfl (dl t o k x cc y) ((rwD 0 0 0 0 0 0).len (rwD t o k x cc y)))
           generalize World.setCells _ _ _ _ = W at hM ⊢
           have c2 := hM.out.cell 0 1 rfl rfl
           have c3 := hM.out.cell 0 2 rfl rfl
           have c4 := hM.out.cell 0 3 rfl rfl)
        | (refine lR rfl (hM.out.at 1 rfl) rfl (rwC ci) ?_))
      refine (DO.out _).mono ?_
      rintro e W ⟨rfl, hb⟩
      replace hM := hid (hM.out.later hb)
      clear hb
      clear c2 c3 c4
      obtain ⟨bx5, hbx5⟩ : ∃ q, q = W.heap.size := ⟨_, rfl⟩
      replace hM := hid ((hM.out.bornR wz_all.symm 37 (b := bx5) hbx5).born [.int .i64 0, .int .i64 0] 44 (b := (bx5 + 1)) (by simp [hbx5]))
      have Hbx5 : Hid _ := hbx5
      clear hbx5
      go_wp2_with (first
        | (rw [← Hbx5.out]; refine sR rfl (hM.out.at 1 rfl) rfl ((rwC wz).len (rwC cn)) (rwC cn) ?_
           replace hM := hid (hM.out.put 1 rfl (wl cn) ((rwC wz).len (rwC cn)))
           generalize World.setCells _ _ _ _ = W at hM ⊢)
        | (refine sR rfl (hM.out.at 0 rfl) rfl ((rwA 0 0).len (rwA cc y)) (rwA cc y) ?_
           replace hM := hid (hM.out.put 0 rfl [.int .i64 cc, .int .i64 y] ((rwA 0 0).len (rwA cc y)))
           generalize World.setCells _ _ _ _ = W at hM ⊢
           have c6 := hM.out.cell 0 0 rfl rfl
           have c7 := hM.out.cell 0 1 rfl rfl
           have c8 := hM.out.cell 2 4 rfl rfl
           have c9 := hM.out.cell 2 5 rfl rfl)
        | (refine lR rfl (hM.out.at 1 rfl) rfl (rwC cn) ?_)
        | (refine sR rfl (hM.out.at 3 rfl) rfl ((rwC ci).len (rwC cn)) (rwC cn) ?_
           replace hM := hid (hM.out.put 3 rfl (wl cn) ((rwC ci).len (rwC cn)))
           generalize World.setCells _ _ _ _ = W at hM ⊢))
      clear c6 c7 c8 c9
      go_roundg (n - (i + 1))
      case measure => omega
      case rel => exact ⟨i + 1, by omega, by omega, by have := HC.out; have hw : wrap64 ((i : Int) + 1) = ((i + 1 : Nat) : Int) := (by unfold wrap64; omega); rw [hw], by rw [← HCN.out]; exact hM.out.pick [3, 4]⟩
    · obtain rfl : i = n := by omega
      have hi1 : ¬ (i : Int) < (i : Int) := by omega
      go_wp2_with (first
        | (refine lR rfl (hM.out.at 0 rfl) rfl (rwC ci) ?_)
        | (refine sR rfl (hM.out.at 1 rfl) rfl ((rwC wz).len (rwC ci)) (rwC ci) ?_
           replace hM := hid (hM.out.put 1 rfl (wl ci) ((rwC wz).len (rwC ci)))
           generalize World.setCells _ _ _ _ = W at hM ⊢))
      exact bodyPost_ret (res1s Tryz.results11 (hM.out.at 1 rfl) (rwC ci) (.nilIface)) rfl ⟨by rw [hci], hM.out.below⟩
set_option maxHeartbeats 8000000 in
theorem legal_bad {kind : Nat} (h1 : 1 ≤ kind) (h6 : kind ≤ 6) {b off c n m : Nat} {q : Nat → DD} (h0 : 0 < n) (hc : n ≤ c) (hn : n ≤ 9223372036854775807) (hm : m < n) (hO : ∀ j, j < m → Ok1 (kind : Nat) q j) (hB : ¬ Ok1 (kind : Nat) q m) (w : World) (D : Dq w (.slice (some ⟨b, off, none⟩) n c) n q) :
    Calls Tryz.prog 11 #[.int .i64 (kind : Nat), .slice (some ⟨b, off, none⟩) n c] w (LegalN w m) := by
  have IS : Hid (∀ w : World, _) := obIs_yes (k := (kind : Nat)) (by omega) (by omega)
  have HE : Hid _ := hid D.all
  clear D
  have OB : Hid (∀ i, i ≤ m → isOb (kind : Nat) (oi (kind : Nat) q i)) := fun i hi => oi_ob (by omega) (by omega) i fun j hj => hO j (by omega)
  have HO : Hid _ := hO
  clear hO
  have HB : Hid _ := hB
  clear hB
  have HC : Hid (n ≤ c ∧ n ≤ 9223372036854775807) := ⟨hc, hn⟩
  clear hc hn h0 h1 h6
  have hM : Hid _ := ((Ms.nil w).bornR wz_all.symm 37 (b := w.heap.size) rfl)
  go_enter Tryz.func11, Tryz.ntmps11
  go_wp2_with fail
  refine (IS.out _).mono ?_
  rintro e ux ⟨rfl, hw⟩
  rw [hw]; clear hw ux
  generalize World.alloc _ _ = W at hM ⊢
  generalize hsz : w.heap.size = n0 at hM ⊢
  have HSZ : Hid _ := hsz
  clear hsz
  obtain ⟨bx1, hbx1⟩ : ∃ q, q = W.heap.size := ⟨_, rfl⟩
  replace hM := hid (hM.out.bornR wz_all.symm 37 (b := bx1) hbx1)
  have Hbx1 : Hid _ := hbx1
  clear hbx1
  go_wp2_with fail
  rw [← Hbx1.out]
  generalize World.alloc _ _ = W at hM ⊢
  go_loopg [19] m (fun gg s19 wt => ∃ i : Nat, i ≤ m ∧ m - i ≤ gg ∧ s19 = .int .i64 i ∧ Hid (Ms n0 w wt [(bx1, wl (oi (kind : Nat) q i)), (n0, wl wz)] []))
  case atStart => exact ⟨0, by omega, by omega, rfl, hM⟩
  case round =>
    clear hM
    obtain ⟨i, hi, hgg, rfl, hM⟩ := hrel
    obtain ⟨W, rfl⟩ : ∃ q, q = wr := ⟨_, rfl⟩
    obtain ⟨ci, hci⟩ : ∃ c, c = oi (kind : Nat) q i := ⟨_, rfl⟩
    rw [← hci] at hM
    by_cases hlt : i < m
    · have hi1 : (i : Int) < (n : Int) := by omega
      have hi0 : (0 : Int) ≤ (i : Int) := by omega
      obtain ⟨t, o, k, x, cc, y, hq, hr⟩ := HE.out W hM.out.below i (by omega)
      have RA : Hid _ := hr
      clear hr
      have OK := (Ok1.at hq).1 (HO.out i hlt)
      obtain ⟨cn, hcn⟩ : ∃ c, c = oi (kind : Nat) q (i + 1) := ⟨_, rfl⟩
      have HCN : Hid _ := hcn
      have DO : Hid (∀ w : World, Calls Tryz.prog 26 #[.int .i64 (kind : Nat), .agg (wl ci).toArray, .agg #[.int .i64 o, .int .i64 k, .int .i64 x]] w (DidD w cn cc y)) := fun w => by
        have h := obDo_is (kind := (kind : Nat)) (OB.out i (by omega)) OK.1 w
        rw [OK.2.1, OK.2.2, ← oi_at hq, ← hci, ← hcn] at h
        exact h
      clear OK hcn hci hq
      obtain ⟨bd, hbd⟩ : ∃ q, q = W.heap.size := ⟨_, rfl⟩
      have HBD : Hid _ := hbd
      clear hbd
      go_wp2_with (first
        | (refine lO rfl RA.out rfl (rwD t o k x cc y) ?_)
        | (rw [← HBD.out]
           replace hM := hid (hM.out.born [.int .i64 0, .int .i64 0, .int .i64 0, .int .i64 0, .int .i64 0, .int .i64 0] 46 HBD.out)
           refine sR rfl (hM.out.at 0 rfl) rfl ((rwD 0 0 0 0 0 0).len (rwD t o k x cc y)) (rwD t o k x cc y) ?_
           replace hM := hid (hM.out.put 0 rfl (dl t o k x cc y) ((rwD 0 0 0 0 0 0).len (rwD t o k x cc y)))
           generalize World.setCells _ _ _ _ = W at hM ⊢
           have c2 := hM.out.cell 0 1 rfl rfl
           have c3 := hM.out.cell 0 2 rfl rfl
           have c4 := hM.out.cell 0 3 rfl rfl)
        | (refine lR rfl (hM.out.at 1 rfl) rfl (rwC ci) ?_))
      refine (DO.out _).mono ?_
      rintro e W ⟨rfl, hb⟩
      replace hM := hid (hM.out.later hb)
      clear hb
      clear c2 c3 c4
      obtain ⟨bx5, hbx5⟩ : ∃ q, q = W.heap.size := ⟨_, rfl⟩
      replace hM := hid ((hM.out.bornR wz_all.symm 37 (b := bx5) hbx5).born [.int .i64 0, .int .i64 0] 44 (b := (bx5 + 1)) (by simp [hbx5]))
      have Hbx5 : Hid _ := hbx5
      clear hbx5
      go_wp2_with (first
        | (rw [← Hbx5.out]; refine sR rfl (hM.out.at 1 rfl) rfl ((rwC wz).len (rwC cn)) (rwC cn) ?_
           replace hM := hid (hM.out.put 1 rfl (wl cn) ((rwC wz).len (rwC cn)))
           generalize World.setCells _ _ _ _ = W at hM ⊢)
        | (refine sR rfl (hM.out.at 0 rfl) rfl ((rwA 0 0).len (rwA cc y)) (rwA cc y) ?_
           replace hM := hid (hM.out.put 0 rfl [.int .i64 cc, .int .i64 y] ((rwA 0 0).len (rwA cc y)))
           generalize World.setCells _ _ _ _ = W at hM ⊢
           have c6 := hM.out.cell 0 0 rfl rfl
           have c7 := hM.out.cell 0 1 rfl rfl
           have c8 := hM.out.cell 2 4 rfl rfl
           have c9 := hM.out.cell 2 5 rfl rfl)
        | (refine lR rfl (hM.out.at 1 rfl) rfl (rwC cn) ?_)
        | (refine sR rfl (hM.out.at 3 rfl) rfl ((rwC ci).len (rwC cn)) (rwC cn) ?_
           replace hM := hid (hM.out.put 3 rfl (wl cn) ((rwC ci).len (rwC cn)))
           generalize World.setCells _ _ _ _ = W at hM ⊢))
      clear c6 c7 c8 c9
      go_roundg (m - (i + 1))
      case measure => omega
      case rel => exact ⟨i + 1, by omega, by omega, by have := HC.out; have hw : wrap64 ((i : Int) + 1) = ((i + 1 : Nat) : Int) := (by unfold wrap64; omega); rw [hw], by rw [← HCN.out]; exact hM.out.pick [3, 4]⟩
    · obtain rfl : i = m := by omega
      have hi1 : (i : Int) < (n : Int) := by omega
      have hi0 : (0 : Int) ≤ (i : Int) := by omega
      obtain ⟨t, o, k, x, cc, y, hq, hr⟩ := HE.out W hM.out.below i (by omega)
      have RA : Hid _ := hr
      clear hr
      have NO := fun h => HB.out ((Ok1.at hq).2 h)
      rw [← hci] at NO
      by_cases hR : Rt o k x
      · have O2 : Hid _ := OB.out i (by omega)
        rw [← hci] at O2
        obtain ⟨cn, c2, y2, hcn⟩ : ∃ d c2 y2, odo (kind : Nat) ci o k x = (d, c2, y2) := ⟨_, _, _, rfl⟩
        rw [hcn] at NO
        have DO : Hid (∀ w : World, Calls Tryz.prog 26 #[.int .i64 (kind : Nat), .agg (wl ci).toArray, .agg #[.int .i64 o, .int .i64 k, .int .i64 x]] w (DidD w cn c2 y2)) := fun w => by
          have h := obDo_is (kind := (kind : Nat)) O2.out hR w
          rw [hcn] at h
          exact h
        clear hcn hci hq
        by_cases e1 : c2 = cc
        · subst c2
          have e2 : (y2 == y) = false := beq_eq_false_iff_ne.2 fun h => NO ⟨hR, rfl, h⟩
          clear NO hR
          obtain ⟨bd, hbd⟩ : ∃ q, q = W.heap.size := ⟨_, rfl⟩
          have HBD : Hid _ := hbd
          clear hbd
          go_wp2_with (first
            | (refine lO rfl RA.out rfl (rwD t o k x cc y) ?_)
            | (rw [← HBD.out]
               replace hM := hid (hM.out.born [.int .i64 0, .int .i64 0, .int .i64 0, .int .i64 0, .int .i64 0, .int .i64 0] 46 HBD.out)
               refine sR rfl (hM.out.at 0 rfl) rfl ((rwD 0 0 0 0 0 0).len (rwD t o k x cc y)) (rwD t o k x cc y) ?_
               replace hM := hid (hM.out.put 0 rfl (dl t o k x cc y) ((rwD 0 0 0 0 0 0).len (rwD t o k x cc y)))
               generalize World.setCells _ _ _ _ = W at hM ⊢
               have c2 := hM.out.cell 0 1 rfl rfl
               have c3 := hM.out.cell 0 2 rfl rfl
               have c4 := hM.out.cell 0 3 rfl rfl)
            | (refine lR rfl (hM.out.at 1 rfl) rfl (rwC ci) ?_))
          refine (DO.out _).mono ?_
          rintro e W ⟨rfl, hb⟩
          replace hM := hid (hM.out.later hb)
          clear hb
          clear c2 c3 c4
          obtain ⟨bx5, hbx5⟩ : ∃ q, q = W.heap.size := ⟨_, rfl⟩
          replace hM := hid ((hM.out.bornR wz_all.symm 37 (b := bx5) hbx5).born [.int .i64 0, .int .i64 0] 44 (b := (bx5 + 1)) (by simp [hbx5]))
          have Hbx5 : Hid _ := hbx5
          clear hbx5
          go_wp2_with (first
            | (rw [← Hbx5.out]; refine sR rfl (hM.out.at 1 rfl) rfl ((rwC wz).len (rwC cn)) (rwC cn) ?_
               replace hM := hid (hM.out.put 1 rfl (wl cn) ((rwC wz).len (rwC cn)))
               generalize World.setCells _ _ _ _ = W at hM ⊢)
            | (refine sR rfl (hM.out.at 0 rfl) rfl ((rwA 0 0).len (rwA cc y2)) (rwA cc y2) ?_
               replace hM := hid (hM.out.put 0 rfl [.int .i64 cc, .int .i64 y2] ((rwA 0 0).len (rwA cc y2)))
               generalize World.setCells _ _ _ _ = W at hM ⊢
               have c6 := hM.out.cell 0 0 rfl rfl
               have c7 := hM.out.cell 0 1 rfl rfl
               have c8 := hM.out.cell 2 4 rfl rfl
               have c9 := hM.out.cell 2 5 rfl rfl
               obtain ⟨ba, hba⟩ : ∃ q, q = W.heap.size := ⟨_, rfl⟩
               have HBA : Hid _ := hba
               clear hba)
            | (rw [← HBA.out]
               replace hM := hid (hM.out.born [.int .i64 13, .int .i64 (i : Nat)] 67 HBA.out)
               refine sR rfl (hM.out.at 5 rfl) rfl ((rwC wz).len (rwC wz)) (rwC wz) ?_
               replace hM := hid (hM.out.put 5 rfl (wl wz) ((rwC wz).len (rwC wz)))
               generalize World.setCells _ _ _ _ = W at hM ⊢))
          exact bodyPost_ret (res1s Tryz.results11 (hM.out.at 5 rfl) (rwC wz) (atV ba)) rfl ⟨ba, rfl, by rw [HSZ.out]; exact hM.out.key 0 rfl, (hM.out.at 0 rfl), hM.out.below⟩
        · have e2 : (c2 == cc) = false := beq_eq_false_iff_ne.2 e1
          clear NO hR e1
          obtain ⟨bd, hbd⟩ : ∃ q, q = W.heap.size := ⟨_, rfl⟩
          have HBD : Hid _ := hbd
          clear hbd
          go_wp2_with (first
            | (refine lO rfl RA.out rfl (rwD t o k x cc y) ?_)
            | (rw [← HBD.out]
               replace hM := hid (hM.out.born [.int .i64 0, .int .i64 0, .int .i64 0, .int .i64 0, .int .i64 0, .int .i64 0] 46 HBD.out)
               refine sR rfl (hM.out.at 0 rfl) rfl ((rwD 0 0 0 0 0 0).len (rwD t o k x cc y)) (rwD t o k x cc y) ?_
               replace hM := hid (hM.out.put 0 rfl (dl t o k x cc y) ((rwD 0 0 0 0 0 0).len (rwD t o k x cc y)))
               generalize World.setCells _ _ _ _ = W at hM ⊢
               have c2 := hM.out.cell 0 1 rfl rfl
               have c3 := hM.out.cell 0 2 rfl rfl
               have c4 := hM.out.cell 0 3 rfl rfl)
            | (refine lR rfl (hM.out.at 1 rfl) rfl (rwC ci) ?_))
          refine (DO.out _).mono ?_
          rintro e W ⟨rfl, hb⟩
          replace hM := hid (hM.out.later hb)
          clear hb
          clear c2 c3 c4
          obtain ⟨bx5, hbx5⟩ : ∃ q, q = W.heap.size := ⟨_, rfl⟩
          replace hM := hid ((hM.out.bornR wz_all.symm 37 (b := bx5) hbx5).born [.int .i64 0, .int .i64 0] 44 (b := (bx5 + 1)) (by simp [hbx5]))
          have Hbx5 : Hid _ := hbx5
          clear hbx5
          go_wp2_with (first
            | (rw [← Hbx5.out]; refine sR rfl (hM.out.at 1 rfl) rfl ((rwC wz).len (rwC cn)) (rwC cn) ?_
               replace hM := hid (hM.out.put 1 rfl (wl cn) ((rwC wz).len (rwC cn)))
               generalize World.setCells _ _ _ _ = W at hM ⊢)
            | (refine sR rfl (hM.out.at 0 rfl) rfl ((rwA 0 0).len (rwA c2 y2)) (rwA c2 y2) ?_
               replace hM := hid (hM.out.put 0 rfl [.int .i64 c2, .int .i64 y2] ((rwA 0 0).len (rwA c2 y2)))
               generalize World.setCells _ _ _ _ = W at hM ⊢
               have c6 := hM.out.cell 0 0 rfl rfl
               have c7 := hM.out.cell 0 1 rfl rfl
               have c8 := hM.out.cell 2 4 rfl rfl
               have c9 := hM.out.cell 2 5 rfl rfl
               obtain ⟨ba, hba⟩ : ∃ q, q = W.heap.size := ⟨_, rfl⟩
               have HBA : Hid _ := hba
               clear hba)
            | (rw [← HBA.out]
               replace hM := hid (hM.out.born [.int .i64 13, .int .i64 (i : Nat)] 67 HBA.out)
               refine sR rfl (hM.out.at 5 rfl) rfl ((rwC wz).len (rwC wz)) (rwC wz) ?_
               replace hM := hid (hM.out.put 5 rfl (wl wz) ((rwC wz).len (rwC wz)))
               generalize World.setCells _ _ _ _ = W at hM ⊢))
          exact bodyPost_ret (res1s Tryz.results11 (hM.out.at 5 rfl) (rwC wz) (atV ba)) rfl ⟨ba, rfl, by rw [HSZ.out]; exact hM.out.key 0 rfl, (hM.out.at 0 rfl), hM.out.below⟩
      · have DO : Hid (∀ w : World, _) := obDo_no (kind := (kind : Nat)) (o := o) (k := k) (x := x) (c := ci) (fun h => hR h.1)
        clear NO hR hci hq
        obtain ⟨bd, hbd⟩ : ∃ q, q = W.heap.size := ⟨_, rfl⟩
        have HBD : Hid _ := hbd
        clear hbd
        go_wp2_with (first
          | (refine lO rfl RA.out rfl (rwD t o k x cc y) ?_)
          | (rw [← HBD.out]
             replace hM := hid (hM.out.born [.int .i64 0, .int .i64 0, .int .i64 0, .int .i64 0, .int .i64 0, .int .i64 0] 46 HBD.out)
             refine sR rfl (hM.out.at 0 rfl) rfl ((rwD 0 0 0 0 0 0).len (rwD t o k x cc y)) (rwD t o k x cc y) ?_
             replace hM := hid (hM.out.put 0 rfl (dl t o k x cc y) ((rwD 0 0 0 0 0 0).len (rwD t o k x cc y)))
             generalize World.setCells _ _ _ _ = W at hM ⊢
             have c2 := hM.out.cell 0 1 rfl rfl
             have c3 := hM.out.cell 0 2 rfl rfl
             have c4 := hM.out.cell 0 3 rfl rfl)
          | (refine lR rfl (hM.out.at 1 rfl) rfl (rwC ci) ?_))
        refine (DO.out _).mono ?_
        rintro e W ⟨rfl, hb⟩
        replace hM := hid (hM.out.later hb)
        clear hb
        clear c2 c3 c4
        obtain ⟨bx5, hbx5⟩ : ∃ q, q = W.heap.size := ⟨_, rfl⟩
        replace hM := hid ((hM.out.bornR wz_all.symm 37 (b := bx5) hbx5).born [.int .i64 0, .int .i64 0] 44 (b := (bx5 + 1)) (by simp [hbx5]))
        have Hbx5 : Hid _ := hbx5
        clear hbx5
        go_wp2_with (first
          | (rw [← Hbx5.out]; refine sR rfl (hM.out.at 1 rfl) rfl ((rwC wz).len (rwC wz)) (rwC wz) ?_
             replace hM := hid (hM.out.put 1 rfl (wl wz) ((rwC wz).len (rwC wz)))
             generalize World.setCells _ _ _ _ = W at hM ⊢)
          | (refine sR rfl (hM.out.at 0 rfl) rfl ((rwA 0 0).len (rwA 0 0)) (rwA 0 0) ?_
             replace hM := hid (hM.out.put 0 rfl [.int .i64 0, .int .i64 0] ((rwA 0 0).len (rwA 0 0)))
             generalize World.setCells _ _ _ _ = W at hM ⊢
             have c6 := hM.out.cell 0 0 rfl rfl
             have c7 := hM.out.cell 0 1 rfl rfl
             have c8 := hM.out.cell 2 4 rfl rfl
             have c9 := hM.out.cell 2 5 rfl rfl
             obtain ⟨ba, hba⟩ : ∃ q, q = W.heap.size := ⟨_, rfl⟩
             have HBA : Hid _ := hba
             clear hba)
          | (rw [← HBA.out]
             replace hM := hid (hM.out.born [.int .i64 13, .int .i64 (i : Nat)] 67 HBA.out)
             refine sR rfl (hM.out.at 5 rfl) rfl ((rwC wz).len (rwC wz)) (rwC wz) ?_
             replace hM := hid (hM.out.put 5 rfl (wl wz) ((rwC wz).len (rwC wz)))
             generalize World.setCells _ _ _ _ = W at hM ⊢))
        exact bodyPost_ret (res1s Tryz.results11 (hM.out.at 5 rfl) (rwC wz) (atV ba)) rfl ⟨ba, rfl, by rw [HSZ.out]; exact hM.out.key 0 rfl, (hM.out.at 0 rfl), hM.out.below⟩
theorem legal_yes {kind : Nat} (h1 : 1 ≤ kind) (h6 : kind ≤ 6) {v : Value} {n : Nat} {q : Nat → DD} {w : World} (D : Dq w v n q) (hO : ∀ j, j < n → Ok1 (kind : Nat) q j) :
    Calls Tryz.prog 11 #[.int .i64 (kind : Nat), v] w (LegalY w (oi (kind : Nat) q n)) := by
  rcases id D with ⟨h0, a, c, hv, ha⟩ | ⟨b, off, c, hv, h0, hc, hm, _⟩
  · subst hv h0
    cases a with
    | none => obtain rfl := ha rfl; exact legal_nil h1 h6 w
    | some a => exact legal_none h1 h6 a c w
  · subst hv; exact legal_some h1 h6 h0 hc hm hO w D
theorem legal_not {kind : Nat} (h1 : 1 ≤ kind) (h6 : kind ≤ 6) {v : Value} {n m : Nat} {q : Nat → DD} {w : World} (D : Dq w v n q) (hm : m < n) (hO : ∀ j, j < m → Ok1 (kind : Nat) q j) (hB : ¬ Ok1 (kind : Nat) q m) :
    Calls Tryz.prog 11 #[.int .i64 (kind : Nat), v] w (LegalN w m) := by
  rcases id D with ⟨h0, a, c, hv, ha⟩ | ⟨b, off, c, hv, h0, hc, hn, _⟩
  · omega
  · subst hv; exact legal_bad h1 h6 h0 hc hn hm hO hB w D
end Go.Proofs.YteogbpaaacmllabGreatDoor.Tab
namespace Go.Proofs.YteogbpaaacmllabGreatDoor
set_option maxRecDepth 20000
open Go.RowKit Go.Extern.Stop Go.Stop Go.Extern

set_option maxHeartbeats 4000000 in
theorem as_at (n : Int) (b : Nat) (t : Addr) (old : Value) (w : World) (hg : w.cell? ⟨0, 0, none⟩ = some (.iface 138 (.agg #[.pointer (some ⟨1, 29, none⟩)]))) (ht0 : w.cell? t = some old) (hf0 : w.frozen? t = false) (hb0 : w.cell? ⟨b, 0, none⟩ = some (.int .i64 n)) :
    Calls Tryz.prog 38 #[atV b, .iface 84 (.pointer (some t))] w fun ev w' => ev = .returned (.bool true) ∧ w' = ((((w.alloc (.cells #[.pointer (some t)] 84)).alloc (.cells #[.pointer (some ⟨1, 84, none⟩), .pointer (some ⟨w.heap.size, 0, none⟩), .int .u64 150] 109)).alloc (.cells #[.pointer (some ⟨1, 84, none⟩), .pointer (some ⟨w.heap.size, 0, none⟩), .int .u64 150] 109)).alloc (.cells #[.int .i64 n] 59)).setCell t (.int .i64 n) := by
  have hF0 := @run_callFunc_extern Tryz.prog 53 _ (fun args => ReflectliteValue.unpack (args.getD 0 (.tuple #[]))) Tryz.func53 (by kernel_rfl) (by kernel_rfl) (by kernel_rfl) (by kernel_rfl)
  have hF1 := @run_callFunc_extern Tryz.prog 54 _ (ReflectliteValue.methodAny (ReflectliteValue.valueError "reflectlite.Value.Type" 0) (fun t _ _ _ => ReflectliteType.toType t)) Tryz.func54 (by kernel_rfl) (by kernel_rfl) (by kernel_rfl) (by kernel_rfl)
  have hF2 := @run_callFunc_extern Tryz.prog 55 _ (ReflectliteValue.method (ReflectliteValue.valueError "reflectlite.Value.IsNil" 0) ReflectliteValue.isNil) Tryz.func55 (by kernel_rfl) (by kernel_rfl) (by kernel_rfl) (by kernel_rfl)
  have hF3 := @run_callFunc_extern Tryz.prog 111 _ (ReflectliteType.abiMethod fun t => do pure (.int .u8 (← Rtype.kind t))) Tryz.func111 (by kernel_rfl) (by kernel_rfl) (by kernel_rfl) (by kernel_rfl)
  have hF4 := @run_callFunc_extern Tryz.prog 123 _ (ReflectliteType.method ReflectliteType.elem) Tryz.func123 (by kernel_rfl) (by kernel_rfl) (by kernel_rfl) (by kernel_rfl)
  have hF5 := @run_callFunc_extern Tryz.prog 124 _ (ReflectliteType.relation "Implements" ReflectliteType.implements_) Tryz.func124 (by kernel_rfl) (by kernel_rfl) (by kernel_rfl) (by kernel_rfl)
  have hF6 := @run_callFunc_extern Tryz.prog 69 _ ReflectliteType.typeOf Tryz.func69 (by kernel_rfl) (by kernel_rfl) (by kernel_rfl) (by kernel_rfl)
  have hF7 := @run_callFunc_extern Tryz.prog 121 _ (ReflectliteType.relation "AssignableTo" ReflectliteType.assignableTo) Tryz.func121 (by kernel_rfl) (by kernel_rfl) (by kernel_rfl) (by kernel_rfl)
  have hF8 := @run_callFunc_extern Tryz.prog 70 _ (ReflectliteValue.method (ReflectliteValue.valueError "reflectlite.Value.Elem" 0) ReflectliteValue.elem) Tryz.func70 (by kernel_rfl) (by kernel_rfl) (by kernel_rfl) (by kernel_rfl)
  have hF9 := @run_callFunc_extern Tryz.prog 71 _ ReflectliteValue.set Tryz.func71 (by kernel_rfl) (by kernel_rfl) (by kernel_rfl) (by kernel_rfl)
  have tO := As.typeOfE
  have tA := At.typeOf
  have aA := At.assignable
  have uA := At.unwraps
  have lA := At.lacksAs
  have mU := At.methodUnwrap
  have mA := As.methodAssignableTo
  have aE := As.assignableE
  have vE := As.valueOfE
  have vP := As.valueOfP
  have tP := As.typeP
  have mK := As.methodKind
  have mE := As.methodElem
  have mI := As.methodImplements
  have kP := As.kindP
  have kE := As.kindE
  have eP := As.elemP
  have iE := As.implementsE
  have n8 := As.isNilP ⟨w.heap.size, 0, none⟩ t ((w.alloc (.cells #[.pointer (some t)] 84)).alloc (.cells #[.pointer (some ⟨1, 84, none⟩), .pointer (some ⟨w.heap.size, 0, none⟩), .int .u64 150] 109)) (by simp)
  have hlt : 0 < w.heap.size := by
    rcases Nat.lt_or_ge 0 w.heap.size with h | h
    · exact h
    · simp [World.cell?, Array.getElem?_eq_none h] at hg
  have hg2 : ((w.alloc (.cells #[.pointer (some t)] 84)).alloc (.cells #[.pointer (some ⟨1, 84, none⟩), .pointer (some ⟨w.heap.size, 0, none⟩), .int .u64 150] 109)).cell? ⟨0, 0, none⟩ = some (.iface 138 (.agg #[.pointer (some ⟨1, 29, none⟩)])) := by
    rw [World.cell?_alloc_lt _ _ ⟨0, 0, none⟩ (by simp <;> omega), World.cell?_alloc_lt _ _ ⟨0, 0, none⟩ hlt]; exact hg
  have htl : t.block < w.heap.size := by
    rcases Nat.lt_or_ge t.block w.heap.size with h | h
    · exact h
    · simp [World.cell?, Array.getElem?_eq_none h] at ht0
  have el := As.elemVP ⟨w.heap.size, 0, none⟩ t (((w.alloc (.cells #[.pointer (some t)] 84)).alloc (.cells #[.pointer (some ⟨1, 84, none⟩), .pointer (some ⟨w.heap.size, 0, none⟩), .int .u64 150] 109)).alloc (.cells #[.pointer (some ⟨1, 84, none⟩), .pointer (some ⟨w.heap.size, 0, none⟩), .int .u64 150] 109)) (by rw [World.cell?_alloc_lt _ _ ⟨w.heap.size, 0, none⟩ (by simp; omega)]; simp)
  have st := As.setE t ⟨w.heap.size + 1 + 1 + 1, 0, none⟩ n old ((((w.alloc (.cells #[.pointer (some t)] 84)).alloc (.cells #[.pointer (some ⟨1, 84, none⟩), .pointer (some ⟨w.heap.size, 0, none⟩), .int .u64 150] 109)).alloc (.cells #[.pointer (some ⟨1, 84, none⟩), .pointer (some ⟨w.heap.size, 0, none⟩), .int .u64 150] 109)).alloc (.cells #[.int .i64 n] 59))
    (by rw [World.cell?_alloc_at _ _ _ _ (by simp)]; rfl)
    (by rw [World.cell?_alloc_lt _ _ t (by simp; omega), World.cell?_alloc_lt _ _ t (by simp; omega), World.cell?_alloc_lt _ _ t (by simp; omega), World.cell?_alloc_lt _ _ t htl]; exact ht0)
    (by rw [World.frozen?_alloc_old _ _ t (by simp; omega), World.frozen?_alloc_old _ _ t (by simp; omega), World.frozen?_alloc_old _ _ t (by simp; omega), World.frozen?_alloc_old _ _ t (Nat.ne_of_lt htl)]; exact hf0)
  have hbl : b < w.heap.size := by
    rcases Nat.lt_or_ge b w.heap.size with h | h
    · exact h
    · simp [World.cell?, Array.getElem?_eq_none h] at hb0
  have UW := At.unwrap n b (((w.alloc (.cells #[.pointer (some t)] 84)).alloc (.cells #[.pointer (some ⟨1, 84, none⟩), .pointer (some ⟨w.heap.size, 0, none⟩), .int .u64 150] 109)).alloc (.cells #[.pointer (some ⟨1, 84, none⟩), .pointer (some ⟨w.heap.size, 0, none⟩), .int .u64 150] 109))
    (by rw [World.cell?_alloc_lt _ _ ⟨b, 0, none⟩ (by simp; omega), World.cell?_alloc_lt _ _ ⟨b, 0, none⟩ (by simp; omega), World.cell?_alloc_lt _ _ ⟨b, 0, none⟩ hbl]; exact hb0)
  unfold atV
  go_enter Tryz.func38, Tryz.ntmps38
  go_wp2
  refine wp_loop_rounds 2 ?_
  rw [rounds_succ]
  go_wp2_with fail
  refine UW.mono ?_
  rintro e w' ⟨rfl, rfl⟩
  go_wp2_with fail
  rw [rounds_succ]
  go_wp2
  go_ret
  exact ⟨rfl, rfl⟩
end Go.Proofs.YteogbpaaacmllabGreatDoor
namespace Go.Proofs.YteogbpaaacmllabGreatDoor.Tab
set_option maxRecDepth 20000
open Go.RowKit
set_option linter.unusedVariables false

theorem as_at' (n : Int) (b : Nat) (t : Addr) (old : Value) (w : World) (hg : HandleAt w) (ht0 : w.cell? t = some old) (hf0 : w.frozen? t = false) (hb0 : w.cell? ⟨b, 0, none⟩ = some (.int .i64 n)) :
    Calls Tryz.prog 38 #[atV b, .iface 84 (.pointer (some t))] w fun e w' => e = .returned (.bool true) ∧ ∃ W, Gr w W ∧ w' = W.setCell t (.int .i64 n) :=
  (as_at n b t old w hg ht0 hf0 hb0).mono fun _ _ ⟨he, hw⟩ => ⟨he, _, ((((Gr.refl w).alloc _ _).alloc _ _).alloc _ _).alloc _ _, hw⟩

theorem tell_at (n : Int) (b : Nat) (w : World) (hH : HandleAt w) (hb0 : w.cell? ⟨b, 0, none⟩ = some (.int .i64 n)) :
    Calls Tryz.prog 20 #[atV b] w fun e w' => e = .returned (.int .i64 n) ∧ Gr w w' := by
  have H1 : Hid (HandleAt (w.alloc (.cells #[.int .i64 0] 59))) := hH.later ((Gr.refl w).alloc _ _)
  have C1 : Hid ((w.alloc (.cells #[.int .i64 0] 59)).cell? ⟨b, 0, none⟩ = some (.int .i64 n)) := by
    rw [World.cell?_alloc_lt _ _ ⟨b, 0, none⟩ (size_of_cell' hb0)]; exact hb0
  clear hH hb0
  unfold atV
  go_enter Tryz.func20, Tryz.ntmps20
  go_wp2_with fail
  refine (as_at' n b ⟨w.heap.size, 0, none⟩ (.int .i64 0) _ H1.out (by simp) ((frozen?_alloc_cells _ _ _ _).trans (frozen_past w (Nat.le_refl _))) C1.out).mono ?_
  rintro e w' ⟨rfl, W, hW, rfl⟩
  have hc : (W.setCell ⟨w.heap.size, 0, none⟩ (.int .i64 n)).cell? ⟨w.heap.size, 0, none⟩ = some (.int .i64 n) := by
    refine World.cell?_setCell_same _ _ _ (u := .int .i64 0) ?_
    rw [hW.cell (by simp)]
    simp
  have hG : Gr w (W.setCell ⟨w.heap.size, 0, none⟩ (.int .i64 n)) := (((Gr.refl w).alloc _ _).trans hW).setCell (Nat.le_refl _) _
  generalize W.setCell ⟨w.heap.size, 0, none⟩ (.int .i64 n) = W2 at hc hG
  clear hW H1 C1
  go_wp2
  go_ret
  exact ⟨rfl, hG⟩

end Go.Proofs.YteogbpaaacmllabGreatDoor.Tab
