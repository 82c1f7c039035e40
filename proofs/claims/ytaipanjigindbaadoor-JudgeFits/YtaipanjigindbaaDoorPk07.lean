/- Texts laid together: What Fits answers and what the reference's Judge answers are the same (no walk); The reference Judge, by its contract; Words of objects held against each other; The library's handle of the type error, off the row's condition. -/
import Derived.Test.YtaipanjigindbaaDoorPk06
import Derived.Deep.DeepCutAuto
import Derived.Deep.RegionHeld3
import Derived.Test.YtaipanjigindbaaDoorPk01
import Derived.ChangeKeysEq
import Derived.Test.YtaipanjigindbaaDoorPk04
import Derived.Test.YtaipanjigindbaaDoorTie
import Derived.ProofKit
import Derived.LaidMore
import Derived.LaidLaws
import Derived.LaidHandle
import Derived.OpenShut
import Derived.Stop.Joined
namespace Go.Proofs.YtaipanjigindbaaDoor.Tab
set_option maxRecDepth 20000
open Go.RowKit
set_option linter.unusedVariables false

theorem JR.first {h : Nat → EV} {q : Nat → DD} {n m k : Nat} {cs : List CC} {a p : Int} (hk : k < n) (e1 : callsF h k = some cs) (e2 : stepC h k cs = none) (j : JR h q n m a p) : a = 10 ∧ p = (k : Nat) := by
  have no : ∀ i ds, callsF h i = some ds → i ≤ k := fun i ds hd => by
    refine Nat.le_of_not_lt fun hlt => ?_
    obtain ⟨es, hes⟩ := callsF_le hd (k + 1) hlt
    have h2 : (callsF h k).bind (stepC h k) = some es := hes
    rw [e1] at h2
    have h3 : stepC h k cs = some es := h2
    rw [e2] at h3
    cases h3
  rcases j with ⟨i, ds, hi, h1, h2, rfl, rfl⟩ | ⟨_, ds, h1, _⟩
  · have hik := no i ds h1
    refine ⟨rfl, ?_⟩
    by_cases e : i = k
    · rw [e]
    · obtain ⟨es, hes⟩ := callsF_le e1 (i + 1) (by omega)
      have h3 : (callsF h i).bind (stepC h i) = some es := hes
      rw [h1] at h3
      have h4 : stepC h i ds = some es := h3
      rw [h2] at h4
      cases h4
  · have := no n ds h1
    omega
theorem JR.second {h : Nat → EV} {q : Nat → DD} {n m : Nat} {cs : List CC} {a p : Int} (e1 : callsF h n = some cs) (j : JR h q n m a p) :
    p = -1 ∧ (ansF h q m cs cs.length = .error a ∨ ∃ bl, ansF h q m cs cs.length = .ok bl ∧ (opnF h q cs bl m = .error a ∨ ∃ s, opnF h q cs bl m = .ok s ∧ a = if ordB cs s.1 m then 0 else 6)) := by
  rcases j with ⟨i, ds, hi, h1, h2, _, _⟩ | ⟨hp, ds, h1, h2⟩
  · obtain ⟨es, hes, _⟩ := callsF_next e1 hi h1
    rw [h2] at hes
    cases hes
  · rw [e1] at h1
    injection h1 with h1
    subst h1
    exact ⟨hp, h2⟩
/-- The error of a code. -/
def codeV (a : Int) : Value := if a = 0 then .nilIface else errV a
theorem codeV_ord (b : Bool) : codeV (if b then 0 else 6) = ordV b := by cases b <;> rfl
theorem ordB_none (cs : List CC) (bl : List (Option Nat)) : ordB cs bl 0 = true := rfl
theorem opn_none_nil (h : Nat → EV) (t : Int) : opn h [] t = none := rfl
theorem fits_code {vea vda : Option Addr} {vec vdc n m : Nat} {h : Nat → EV} {q : Nat → DD} {cs : List CC} (hn : n ≤ 1000000) (hm : m ≤ 1000000) (hwt : ∀ i, i < m → (Lit.int .i64 (q i).t).wf = true) (hcs : callsF h n = some cs) :
    ∃ a : Int, (∀ a' p', JR h q n m a' p' → a' = a ∧ p' = -1) ∧ ∀ w, Ev w (.slice vea n vec) n h → Dq w (.slice vda m vdc) m q → Calls Tryd.prog 10 #[.slice vea n vec, .slice vda m vdc] w (Ret w (codeV a)) := by
  rcases e : ansF h q m cs cs.length with c | bl
  · have h0 : 0 < cs.length := Nat.pos_of_ne_zero fun e0 => by rw [e0] at e; cases e
    have hc : c ≠ 0 := by
      obtain ⟨k, bl, _, h1, h2⟩ := ansF_bad e
      obtain ⟨z, _, ⟨_, h3⟩ | ⟨_, _, h3⟩ | ⟨p, _, _, ⟨_, h3⟩ | ⟨_, _, h3⟩⟩⟩ := stepA_err (ansF_len h1) h2 <;> rw [h3] <;> decide
    refine ⟨c, fun a' p' j => ?_, fun w E D => ?_⟩
    · obtain ⟨hp, h1 | ⟨bl, h1, _⟩⟩ := j.second hcs
      · rw [e] at h1; injection h1 with h1; exact ⟨h1.symm, hp⟩
      · rw [e] at h1; cases h1
    · unfold codeV; rw [if_neg hc]; exact fits_ans h0 e w E D hn hm hwt hcs
  · have two : ∀ {a' p'}, JR h q n m a' p' → p' = -1 ∧ (opnF h q cs bl m = .error a' ∨ ∃ s, opnF h q cs bl m = .ok s ∧ a' = if ordB cs s.1 m then 0 else 6) := fun j => by
      obtain ⟨hp, h1 | ⟨b2, h1, h2⟩⟩ := j.second hcs
      · rw [e] at h1; cases h1
      · rw [e] at h1; injection h1 with h1; subst h1; exact ⟨hp, h2⟩
    have hbl := ansF_len e
    rcases e2 : opnF h q cs bl m with c | s
    · obtain ⟨k, s, hk, h1, h2⟩ := opnF_bad e2
      have hc : c = 8 := (stepO_err (by rw [opnF_len h1, hbl]; exact hk) h2).1
      refine ⟨c, fun a' p' j => ?_, fun w E D => ?_⟩
      · obtain ⟨hp, h1 | ⟨s, h1, _⟩⟩ := two j
        · rw [e2] at h1; injection h1 with h1; exact ⟨h1.symm, hp⟩
        · rw [e2] at h1; cases h1
      · unfold codeV; rw [if_neg (by rw [hc]; decide)]
        cases cs with
        | nil => rw [hc]; exact fits_nils w E D hn (by omega) hm hwt hcs
        | cons c0 cs => exact fits_open (show 0 < (c0 :: cs).length from Nat.succ_pos _) e e2 w E D hn hm hwt hcs
    · refine ⟨if ordB cs s.1 m then 0 else 6, fun a' p' j => ?_, fun w E D => ?_⟩
      · obtain ⟨hp, h1 | ⟨s2, h1, h2⟩⟩ := two j
        · rw [e2] at h1; cases h1
        · rw [e2] at h1; injection h1 with h1; subst h1; exact ⟨h2, hp⟩
      · rw [codeV_ord]
        by_cases hm0 : m = 0
        · cases cs with
          | nil => subst hm0; exact fits_nil0 w E D hn hcs
          | cons c0 cs => exact fits_end0 (show 0 < (c0 :: cs).length from Nat.succ_pos _) hm0 e e2 w E D hn hm hwt hcs
        · cases cs with
          | nil =>
            obtain ⟨s2, h1, _⟩ := opnF_next e2 (Nat.pos_of_ne_zero hm0) rfl
            rcases stepO_some (by show 0 < bl.length; rw [hbl]; omega) h1 with ⟨x, hb, _⟩ | ⟨k, a, _, ho, _⟩
            · have hb2 : bl = List.replicate m none := by injection e with e; exact e.symm
              have hb : bl[0]? = some (some x) := hb
              rw [hb2, List.getElem?_replicate, if_pos (by omega)] at hb
              cases hb
            · have := (opu_hit ho).2
              rw [opn_none_nil] at this
              cases this
          | cons c0 cs => exact fits_end (show 0 < (c0 :: cs).length from Nat.succ_pos _) (by omega) e e2 w E D hn hm hwt hcs
end Go.Proofs.YtaipanjigindbaaDoor.Tab
namespace Go.Proofs.YtaipanjigindbaaDoor.Tab
set_option maxRecDepth 20000
open Go.RowKit
set_option linter.unusedVariables false

theorem cg_app {cs : List CC} {c : CC} {j : Nat} (hj : j < cs.length) : cg (cs ++ [c]) j = cg cs j := by
  unfold cg; rw [List.getD_eq_getElem?_getD, List.getD_eq_getElem?_getD, List.getElem?_append_left hj]
theorem cg_last (cs : List CC) (c : CC) : cg (cs ++ [c]) cs.length = c := by unfold cg; simp
theorem cg_at {cs : List CC} {c : CC} {j : Nat} (hj : j < cs.length) : cg (cs.set j c) j = c := by unfold cg; simp [hj]
theorem cg_off {cs : List CC} {c : CC} {j k : Nat} (hj : j ≠ k) : cg (cs.set k c) j = cg cs j := by
  unfold cg; rw [List.getD_eq_getElem?_getD, List.getD_eq_getElem?_getD, List.getElem?_set_ne (fun h => hj h.symm)]
set_option maxHeartbeats 64000000 in
set_option maxRecDepth 20000 in
theorem judgeR {vea vda : Option Addr} {vec vdc n m : Nat} {h : Nat → EV} {q : Nat → DD} (w : World) (E : Ev w (.slice vea n vec) n h) (D : Dq w (.slice vda m vdc) m q) (hn : n ≤ 1000000) (hm : m ≤ 1000000) :
    Calls Tryd.prog 11 #[.slice vea n vec, .slice vda m vdc] w (JudgeY h q n m w) := by
  have HE : Hid _ := hid E
  have HD : Hid _ := hid D
  have HC : Hid (n ≤ 1000000 ∧ m ≤ 1000000) := ⟨hn, hm⟩
  clear E D hn hm
  have hM : Hid _ := (((Ms.nil w).born [.int .i64 0, .int .i64 0] 26 (b := w.heap.size) rfl).born [.slice none 0 0] 82 (b := w.heap.size + 1) (by simp))
  replace hM : Hid (Jm _ _ _ _ _ [] [] (frow h [] (fun _ => 0))) := hid (Jm.start (f := frow h [] (fun _ => 0)) hM.out)
  go_enter Tryd.func11, Tryd.ntmps11
  go_wp2_with fail
  generalize World.alloc _ _ = W at hM ⊢
  generalize hsz : w.heap.size = n0 at hM ⊢
  have HSZ : Hid _ := hsz
  clear hsz
  go_loopg [23] n (fun gg s23 wt => ∃ (i : Nat) (v : Value) (bs : List Nat) (cs : List CC), i ≤ n ∧ n - i ≤ gg ∧ s23 = .int .i64 i ∧ Hid (callsF h i = some cs) ∧ Hid (bs.length = cs.length) ∧ Hid (Jm n0 w wt [((n0 + 1), [v]), (n0, [.int .i64 0, .int .i64 0])] v bs bs (frow h cs (fun _ => 0))))
  case atStart => exact ⟨0, _, [], [], by omega, by omega, rfl, hid rfl, hid rfl, hM⟩
  case round =>
    clear hM
    obtain ⟨i, v, bs, cs, hi, hgg, rfl, CF, HL, hM⟩ := hrel
    obtain ⟨W, rfl⟩ : ∃ q, q = wr := ⟨_, rfl⟩
    have GG : Hid (GC h i cs) := GC.of CF.out
    by_cases hlt : i < n
    · obtain ⟨eb, eo, rfl, hec⟩ := HE.out.some (by omega)
      have hrow := (HE.out.all W hM.out.below i hlt).1
      obtain ⟨⟨kd, th, o, k, x, cc, y, wh, st⟩, he⟩ : ∃ e, h i = e := ⟨_, rfl⟩
      rw [he] at hrow
      have RA : Hid (W.rangeAt eb (eo + i * 9) [.int .i64 kd, .int .i64 th, .int .i64 o, .int .i64 k, .int .i64 x, .int .i64 cc, .int .i64 y, .int .i64 wh, .int .i64 st]) := hrow
      have hi1 : (i : Int) < (n : Int) := by omega
      have hi0 : (0 : Int) ≤ (i : Int) := by omega
      have HI : Hid (cs.length ≤ i ∧ i < n) := ⟨GG.out.len, hlt⟩
      have HEI : Hid _ := he
      clear hrow
      cases hst : stepC h i cs with
      | some ds =>
        have CF2 : Hid (callsF h (i + 1) = some ds) := by show (callsF h i).bind (stepC h i) = _; rw [CF.out]; exact hst
        rcases stepC_some hst with ⟨h3, hd⟩ | ⟨h1, hop, hd⟩ | ⟨kk, a, h2, hop, hk, heq, hd⟩
        · subst hd
          rw [he] at h3
          replace h3 : kd = 3 := h3
          subst kd
          clear hst he
          obtain ⟨be, hbe⟩ : ∃ q, q = W.heap.size := ⟨_, rfl⟩
          have HBE : Hid _ := hbe
          clear hbe
          have hM2 : Hid _ := hid (hM.out.born [.int .i64 3, .int .i64 th, .int .i64 o, .int .i64 k, .int .i64 x, .int .i64 cc, .int .i64 y, .int .i64 wh, .int .i64 st] 85 HBE.out)
          go_wp2_with (first
            | (refine lO rfl RA.out rfl (rwEv 3 th o k x cc y wh st) ?_; clear RA))
          replace hM := hM2
          clear hM2
          rw [← HBE.out]
          generalize World.alloc _ _ = W at hM ⊢
          clear HBE
          refine (openOf_is hM.out HL.out (by have := HI.out; have := HC.out; omega) (i5 := 1) rfl th).mono ?_
          rintro e ux ⟨rfl, hw⟩
          rw [hw]; clear hw ux
          have c1 := hM.out.cell 0 0 rfl rfl
          generalize cp bs (opn h ds th) = vc
          go_wp2
          clear c1
          go_roundg (n - (i + 1))
          case measure => omega
          case rel => exact ⟨i + 1, v, bs, ds, by omega, by omega, (by have := HC.out; have hw : wrap64 ((i : Int) + 1) = ((i + 1 : Nat) : Int) := (by unfold wrap64; omega); rw [hw]), CF2, HL, hid hM.out.tail⟩
        · rw [he] at h1 hop
          replace h1 : kd = 1 := h1
          subst kd
          have HOP : Hid (opn h cs th = none) := hop
          have DS : Hid _ := hd
          clear hst he hop hd
          obtain ⟨be, hbe⟩ : ∃ q, q = W.heap.size := ⟨_, rfl⟩
          have HBE : Hid _ := hbe
          clear hbe
          have hM2 : Hid _ := hid (hM.out.born [.int .i64 1, .int .i64 th, .int .i64 o, .int .i64 k, .int .i64 x, .int .i64 cc, .int .i64 y, .int .i64 wh, .int .i64 st] 85 HBE.out)
          go_wp2_with (first
            | (refine lO rfl RA.out rfl (rwEv 1 th o k x cc y wh st) ?_; clear RA))
          replace hM := hM2
          clear hM2
          rw [← HBE.out]
          generalize World.alloc _ _ = W at hM ⊢
          clear HBE
          refine (openOf_is hM.out HL.out (by have := HI.out; have := HC.out; omega) (i5 := 1) rfl th).mono ?_
          rintro e ux ⟨rfl, hw⟩
          rw [hw]; clear hw ux
          have c1 := hM.out.cell 0 0 rfl rfl
          rw [HOP.out]
          simp only [cp]
          have c2 := hM.out.cell 1 0 rfl rfl
          obtain ⟨bc, hbc⟩ : ∃ q, q = W.heap.size := ⟨_, rfl⟩
          have HBC : Hid _ := hbc
          have hM2 : Hid _ := hid ((hM.out.born [.int .i64 1, .int .i64 th, .int .i64 o, .int .i64 k, .int .i64 x, .int .i64 cc, .int .i64 y, .int .i64 wh, .int .i64 st, .int .i64 (i : Nat), .int .i64 (-1), .int .i64 0] 87 hbc).born [.pointer (some ⟨bc, 0, none⟩)] 83 (b := bc + 1) (by simp [hbc]))
          clear hbc
          go_wp2_with (first
            | (refine lR rfl (hM.out.at 0 rfl) rfl (rwEv 1 th o k x cc y wh st) ?_)
            | (at_builtin
               rw [← HBC.out]
               generalize World.alloc _ _ = W2 at hM2 ⊢
               refine wpList_pushC rfl rfl (.tmp 42) (.tmp 47) rfl rfl rfl hM2.out (hM2.out.cell 0 0 rfl rfl) (by have := HL.out; have := HI.out; have := HC.out; omega) ?_
               intro v9 W9 hJ
               obtain ⟨a9, l9, cap9, rfl⟩ : ∃ a l c, v9 = Value.slice a l c := by obtain ⟨a, c, e⟩ := hJ.len; exact ⟨a, _, c, e⟩
               have hM9 : Hid _ := hid hJ
               clear hJ
               have c99 := hM9.out.cell 3 0 rfl rfl
               have f99 := hM9.out.froz 3 0 rfl))
          clear c99 f99
          clear c1 c2
          have hM3 : Hid (Jm n0 w (W9.setCell ⟨(n0 + 1), 0, none⟩ (.slice a9 l9 cap9)) [(bc, [.int .i64 1, .int .i64 th, .int .i64 o, .int .i64 k, .int .i64 x, .int .i64 cc, .int .i64 y, .int .i64 wh, .int .i64 st, .int .i64 (i : Nat), .int .i64 (-1), .int .i64 0]), (be, [.int .i64 1, .int .i64 th, .int .i64 o, .int .i64 k, .int .i64 x, .int .i64 cc, .int .i64 y, .int .i64 wh, .int .i64 st]), ((n0 + 1), [.slice a9 l9 cap9]), (n0, [.int .i64 0, .int .i64 0])] (.slice a9 l9 cap9) (bs ++ [bc]) bs (frow h cs (fun _ => 0))) := hid (hM9.out.put1 3 0 rfl (.slice a9 l9 cap9) [.slice a9 l9 cap9] (Nat.lt_succ_self 0) rfl).tail
          have hM4 : Hid (Jm n0 w (W9.setCell ⟨(n0 + 1), 0, none⟩ (.slice a9 l9 cap9)) [((n0 + 1), [.slice a9 l9 cap9]), (n0, [.int .i64 0, .int .i64 0])] (.slice a9 l9 cap9) (bs ++ [bc]) (bs ++ [bc]) (frow h ds (fun _ => 0))) := hid (hM3.out.adopt (f' := frow h ds (fun _ => 0)) (fun j hj => by unfold frow; rw [DS.out, cg_app (by rw [← HL.out]; exact hj)]) (by unfold frow; rw [DS.out, HL.out, cg_last]; unfold crow; rw [HEI.out]; rfl)).tail
          go_roundg (n - (i + 1))
          case measure => omega
          case rel => exact ⟨i + 1, (.slice a9 l9 cap9), (bs ++ [bc]), ds, by omega, by omega, (by have := HC.out; have hw : wrap64 ((i : Int) + 1) = ((i + 1 : Nat) : Int) := (by unfold wrap64; omega); rw [hw]), CF2, (hid (by rw [DS.out, List.length_append, List.length_append, HL.out]; rfl)), hM4⟩
        · rw [he] at h2 hop heq
          replace h2 : kd = 2 := h2
          subst kd
          replace hop : opn h cs th = some kk := hop
          have DS : Hid _ := hd
          obtain ⟨bb, hbb⟩ : ∃ q, bk bs kk = q := ⟨_, rfl⟩
          have HBB : Hid _ := hbb
          have HV : Hid (cp bs (opn h cs th) = .pointer (some ⟨bb, 0, none⟩)) := by rw [hop]; show ptr (bk bs kk) = _; rw [hbb]; rfl
          clear hbb
          obtain ⟨⟨kd2, th2, o2, k2, x2, cc2, y2, wh2, st2⟩, he2⟩ : ∃ e, h a = e := ⟨_, rfl⟩
          have CR : Hid (∀ {W : World} {F : List (Nat × List Value)} (J : Jm n0 w W F v bs bs (frow h cs (fun _ => 0))), Bo W bb [.int .i64 kd2, .int .i64 th2, .int .i64 o2, .int .i64 k2, .int .i64 x2, .int .i64 cc2, .int .i64 y2, .int .i64 wh2, .int .i64 st2, .int .i64 (a : Nat), .int .i64 (-1), .int .i64 ((0 : Nat) : Int)]) := fun J => J.row HL.out hk HBB.out rfl he2
          have HK : Hid _ := hk
          have HKL : Hid (kk < bs.length) := by have := (List.getElem?_eq_some_iff.1 hk).1; have := HL.out; exact (by omega : kk < bs.length)
          rw [he2] at heq
          obtain ⟨rfl, rfl, rfl⟩ : o = o2 ∧ k = k2 ∧ x = x2 := by simpa [EV.op] using heq
          have EQ := fun w => op_eq o k x o k x true (by simp) w
          clear hst he hop hd heq hk he2
          obtain ⟨be, hbe⟩ : ∃ q, q = W.heap.size := ⟨_, rfl⟩
          have HBE : Hid _ := hbe
          clear hbe
          have hM2 : Hid _ := hid (hM.out.born [.int .i64 2, .int .i64 th, .int .i64 o, .int .i64 k, .int .i64 x, .int .i64 cc, .int .i64 y, .int .i64 wh, .int .i64 st] 85 HBE.out)
          go_wp2_with (first
            | (refine lO rfl RA.out rfl (rwEv 2 th o k x cc y wh st) ?_; clear RA))
          replace hM := hM2
          clear hM2
          rw [← HBE.out]
          generalize World.alloc _ _ = W at hM ⊢
          clear HBE
          refine (openOf_is hM.out HL.out (by have := HI.out; have := HC.out; omega) (i5 := 1) rfl th).mono ?_
          rintro e ux ⟨rfl, hw⟩
          rw [hw]; clear hw ux
          have c1 := hM.out.cell 0 0 rfl rfl
          rw [HV.out]
          go_wp2_with fail
          clear c1
          replace hM := hid (hM.out.drew)
          refine wp_region_held_drew (S := fun w' => Bo w' be [.int .i64 2, .int .i64 th, .int .i64 o, .int .i64 k, .int .i64 x, .int .i64 cc, .int .i64 y, .int .i64 wh, .int .i64 st] ∧ Bo w' bb [.int .i64 kd2, .int .i64 th2, .int .i64 o, .int .i64 k, .int .i64 x, .int .i64 cc2, .int .i64 y2, .int .i64 wh2, .int .i64 st2, .int .i64 (a : Nat), .int .i64 (-1), .int .i64 ((0 : Nat) : Int)]) (by kernel_rfl) ⟨hM.out.at 0 rfl, CR.out hM.out⟩ (fun hH => ?_)
          generalize World.drew _ = W at hM hH  ⊢
          refine tk 0 rfl hH ?_
          simp only [Act.put, p1, p2, p3]
          refine tk 1 rfl hH ?_
          simp only [Act.put, p1, p2, p3]
          refine tk 2 rfl hH ?_
          simp only [Act.put, p1, p2, p3]
          refine tk 3 rfl hH ?_
          simp only [Act.put, p1, p2, p3]
          refine tk 4 rfl hH ?_
          simp only [Act.put, p1, p2, p3]
          refine tk 5 rfl hH ?_
          simp only [Act.put, p1, p2, p3]
          refine tk 6 rfl hH ?_
          simp only [Act.put, p1, p2, p3]
          refine tk 7 rfl hH ?_ (by intro w h; have c0 := h.2.at 2 rfl; have c1 := h.2.at 3 rfl; have c2 := h.2.at 4 rfl; clear h; go_simp; try with_reducible rfl)
          simp only [Act.put, p1, p2, p3]
          refine tk 8 rfl hH ?_
          simp only [Act.put, p1, p2, p3]
          refine tk 9 rfl hH ?_ (by intro w h; have c0 := h.1.at 2 rfl; have c1 := h.1.at 3 rfl; have c2 := h.1.at 4 rfl; clear h; go_simp; try with_reducible rfl)
          simp only [Act.put, p1, p2, p3]
          refine tk 10 rfl hH ?_
          simp only [Act.put, p1, p2, p3]
          refine tk 11 rfl hH ?_
          simp only [Act.put, p1, p2, p3]
          refine wpAnyH_done (by kernel_rfl) ?_ _
          have cb := (CR.out hM.out).at 10 rfl
          have fb := (CR.out hM.out).froz 10
          go_wp2
          clear cb fb
          have hM3 : Hid (Jm n0 w (W.setCell ⟨bb, 10, none⟩ (.int .i64 (i : Nat))) [(be, [.int .i64 2, .int .i64 th, .int .i64 o, .int .i64 k, .int .i64 x, .int .i64 cc, .int .i64 y, .int .i64 wh, .int .i64 st]), ((n0 + 1), [v]), (n0, [.int .i64 0, .int .i64 0])] v bs bs (frow h ds (fun _ => 0))) := by
            have := hM.out.putC HKL.out 10 (.int .i64 (i : Nat)) (frow h ds (fun _ => 0) kk) (by show 10 < 12; omega) (by unfold frow; rw [DS.out, cg_at (by rw [← HL.out]; exact HKL.out), cg_of HK.out]; rfl)
            rw [HBB.out] at this
            exact hid (this.congr fun j hj => by
              show (if j = kk then _ else _) = _
              by_cases e : j = kk
              · rw [if_pos e, e]
              · rw [if_neg e]; unfold frow; rw [DS.out, cg_off e])
          go_roundg (n - (i + 1))
          case measure => omega
          case rel => exact ⟨i + 1, v, bs, ds, by omega, by omega, (by have := HC.out; have hw : wrap64 ((i : Int) + 1) = ((i + 1 : Nat) : Int) := (by unfold wrap64; omega); rw [hw]), CF2, (hid (by rw [DS.out, List.length_set]; exact HL.out)), hid hM3.out.tail⟩
      | none =>
        have HB : Hid _ := hst
        obtain ⟨h3, ⟨hop, h1⟩ | ⟨kk, a, hop, hk, hor⟩⟩ := stepC_none hst
        · rw [he] at h3 h1 hop
          replace h3 : kd ≠ 3 := h3
          replace h1 : kd ≠ 1 := h1
          have HOP : Hid (opn h cs th = none) := hop
          by_cases h2 : kd = 2
          · subst kd
            clear hst he hop h3 h1
            obtain ⟨be, hbe⟩ : ∃ q, q = W.heap.size := ⟨_, rfl⟩
            have HBE : Hid _ := hbe
            clear hbe
            have hM2 : Hid _ := hid (hM.out.born [.int .i64 2, .int .i64 th, .int .i64 o, .int .i64 k, .int .i64 x, .int .i64 cc, .int .i64 y, .int .i64 wh, .int .i64 st] 85 HBE.out)
            go_wp2_with (first
              | (refine lO rfl RA.out rfl (rwEv 2 th o k x cc y wh st) ?_; clear RA))
            replace hM := hM2
            clear hM2
            rw [← HBE.out]
            generalize World.alloc _ _ = W at hM ⊢
            clear HBE
            refine (openOf_is hM.out HL.out (by have := HI.out; have := HC.out; omega) (i5 := 1) rfl th).mono ?_
            rintro e ux ⟨rfl, hw⟩
            rw [hw]; clear hw ux
            have c1 := hM.out.cell 0 0 rfl rfl
            rw [HOP.out]
            simp only [cp]
            go_wp2_with fail
            clear c1
            replace hM := hid (hM.out.drew)
            refine wp_region_held_drew (S := fun w' => True) (by kernel_rfl) trivial (fun hH => ?_)
            generalize World.drew _ = W at hM hH  ⊢
            refine tk 0 rfl hH ?_
            simp only [Act.put, p1, p2, p3]
            refine tk 1 rfl hH ?_
            simp only [Act.put, p1, p2, p3]
            refine tk 2 rfl hH ?_
            simp only [Act.put, p1, p2, p3]
            refine tkN 3 rfl hH ?_
            simp only [Act.put, p1, p2, p3]
            refine tkN 4 rfl hH ?_
            simp only [Act.put, p1, p2, p3]
            refine tkN 5 rfl hH ?_
            simp only [Act.put, p1, p2, p3]
            refine tkN 6 rfl hH ?_
            simp only [Act.put, p1, p2, p3]
            refine tkN 7 rfl hH ?_
            simp only [Act.put, p1, p2, p3]
            refine tkN 8 rfl hH ?_
            simp only [Act.put, p1, p2, p3]
            refine tkN 9 rfl hH ?_
            simp only [Act.put, p1, p2, p3]
            refine tkN 10 rfl hH ?_
            simp only [Act.put, p1, p2, p3]
            refine tk 11 rfl hH ?_
            simp only [Act.put, p1, p2, p3]
            refine wpAnyH_done (by kernel_rfl) ?_ _
            go_wp2_with (first
              | (refine sR rfl (hM.out.at 2 rfl) rfl ((rwF 0 0).len (rwF 10 (i : Nat))) (rwF 10 (i : Nat)) ?_
                 replace hM := hid (hM.out.put 2 rfl [.int .i64 10, .int .i64 (i : Nat)] ((rwF 0 0).len (rwF 10 (i : Nat))))
                 generalize World.setCells _ _ _ _ = W at hM ⊢))
            exact bodyPost_ret (res1 Tryd.results11 (hM.out.at 2 rfl) (rwF 10 (i : Nat))) rfl ⟨10, (i : Nat), JR.order HI.out.2 CF.out HB.out, rfl, hM.out.below⟩
          · have k1 : (kd == 1) = false := beq_eq_false_iff_ne.2 h1
            have k2 : (kd == 2) = false := beq_eq_false_iff_ne.2 h2
            have k3 : (kd == 3) = false := beq_eq_false_iff_ne.2 h3
            clear hst he hop h3 h1 h2
            obtain ⟨be, hbe⟩ : ∃ q, q = W.heap.size := ⟨_, rfl⟩
            have HBE : Hid _ := hbe
            clear hbe
            have hM2 : Hid _ := hid (hM.out.born [.int .i64 kd, .int .i64 th, .int .i64 o, .int .i64 k, .int .i64 x, .int .i64 cc, .int .i64 y, .int .i64 wh, .int .i64 st] 85 HBE.out)
            go_wp2_with (first
              | (refine lO rfl RA.out rfl (rwEv kd th o k x cc y wh st) ?_; clear RA))
            replace hM := hM2
            clear hM2
            rw [← HBE.out]
            generalize World.alloc _ _ = W at hM ⊢
            clear HBE
            refine (openOf_is hM.out HL.out (by have := HI.out; have := HC.out; omega) (i5 := 1) rfl th).mono ?_
            rintro e ux ⟨rfl, hw⟩
            rw [hw]; clear hw ux
            have c1 := hM.out.cell 0 0 rfl rfl
            rw [HOP.out]
            simp only [cp]
            go_wp2_with (first
              | (refine sR rfl (hM.out.at 2 rfl) rfl ((rwF 0 0).len (rwF 10 (i : Nat))) (rwF 10 (i : Nat)) ?_
                 replace hM := hid (hM.out.put 2 rfl [.int .i64 10, .int .i64 (i : Nat)] ((rwF 0 0).len (rwF 10 (i : Nat))))
                 generalize World.setCells _ _ _ _ = W at hM ⊢))
            clear c1
            exact bodyPost_ret (res1 Tryd.results11 (hM.out.at 2 rfl) (rwF 10 (i : Nat))) rfl ⟨10, (i : Nat), JR.order HI.out.2 CF.out HB.out, rfl, hM.out.below⟩
        · rw [he] at h3 hop hor
          replace h3 : kd ≠ 3 := h3
          replace hop : opn h cs th = some kk := hop
          obtain ⟨bb, hbb⟩ : ∃ q, bk bs kk = q := ⟨_, rfl⟩
          have HBB : Hid _ := hbb
          have HV : Hid (cp bs (opn h cs th) = .pointer (some ⟨bb, 0, none⟩)) := by rw [hop]; show ptr (bk bs kk) = _; rw [hbb]; rfl
          clear hbb
          by_cases h2 : kd = 2
          · subst kd
            replace hor := hor.resolve_left (fun h => h rfl)
            obtain ⟨⟨kd2, th2, o2, k2, x2, cc2, y2, wh2, st2⟩, he2⟩ : ∃ e, h a = e := ⟨_, rfl⟩
            have CR : Hid (∀ {W : World} {F : List (Nat × List Value)} (J : Jm n0 w W F v bs bs (frow h cs (fun _ => 0))), Bo W bb [.int .i64 kd2, .int .i64 th2, .int .i64 o2, .int .i64 k2, .int .i64 x2, .int .i64 cc2, .int .i64 y2, .int .i64 wh2, .int .i64 st2, .int .i64 (a : Nat), .int .i64 (-1), .int .i64 ((0 : Nat) : Int)]) := fun J => J.row HL.out hk HBB.out rfl he2
            have HK : Hid _ := hk
            rw [he2] at hor
            have EQ := fun w => op_eq o2 k2 x2 o k x false ⟨fun h => (by cases h), fun h => absurd h.symm (by simpa [EV.op] using hor)⟩ w
            clear hst he hop h3 hor he2 hk
            obtain ⟨be, hbe⟩ : ∃ q, q = W.heap.size := ⟨_, rfl⟩
            have HBE : Hid _ := hbe
            clear hbe
            have hM2 : Hid _ := hid (hM.out.born [.int .i64 2, .int .i64 th, .int .i64 o, .int .i64 k, .int .i64 x, .int .i64 cc, .int .i64 y, .int .i64 wh, .int .i64 st] 85 HBE.out)
            go_wp2_with (first
              | (refine lO rfl RA.out rfl (rwEv 2 th o k x cc y wh st) ?_; clear RA))
            replace hM := hM2
            clear hM2
            rw [← HBE.out]
            generalize World.alloc _ _ = W at hM ⊢
            clear HBE
            refine (openOf_is hM.out HL.out (by have := HI.out; have := HC.out; omega) (i5 := 1) rfl th).mono ?_
            rintro e ux ⟨rfl, hw⟩
            rw [hw]; clear hw ux
            have c1 := hM.out.cell 0 0 rfl rfl
            rw [HV.out]
            go_wp2_with fail
            clear c1
            replace hM := hid (hM.out.drew)
            refine wp_region_held_drew (S := fun w' => Bo w' be [.int .i64 2, .int .i64 th, .int .i64 o, .int .i64 k, .int .i64 x, .int .i64 cc, .int .i64 y, .int .i64 wh, .int .i64 st] ∧ Bo w' bb [.int .i64 kd2, .int .i64 th2, .int .i64 o2, .int .i64 k2, .int .i64 x2, .int .i64 cc2, .int .i64 y2, .int .i64 wh2, .int .i64 st2, .int .i64 (a : Nat), .int .i64 (-1), .int .i64 ((0 : Nat) : Int)]) (by kernel_rfl) ⟨hM.out.at 0 rfl, CR.out hM.out⟩ (fun hH => ?_)
            generalize World.drew _ = W at hM hH  ⊢
            refine tk 0 rfl hH ?_
            simp only [Act.put, p1, p2, p3]
            refine tk 1 rfl hH ?_
            simp only [Act.put, p1, p2, p3]
            refine tk 2 rfl hH ?_
            simp only [Act.put, p1, p2, p3]
            refine tk 3 rfl hH ?_
            simp only [Act.put, p1, p2, p3]
            refine tk 4 rfl hH ?_
            simp only [Act.put, p1, p2, p3]
            refine tk 5 rfl hH ?_
            simp only [Act.put, p1, p2, p3]
            refine tk 6 rfl hH ?_
            simp only [Act.put, p1, p2, p3]
            refine tk 7 rfl hH ?_ (by intro w h; have c0 := h.2.at 2 rfl; have c1 := h.2.at 3 rfl; have c2 := h.2.at 4 rfl; clear h; go_simp; try with_reducible rfl)
            simp only [Act.put, p1, p2, p3]
            refine tk 8 rfl hH ?_
            simp only [Act.put, p1, p2, p3]
            refine tk 9 rfl hH ?_ (by intro w h; have c0 := h.1.at 2 rfl; have c1 := h.1.at 3 rfl; have c2 := h.1.at 4 rfl; clear h; go_simp; try with_reducible rfl)
            simp only [Act.put, p1, p2, p3]
            refine tk 10 rfl hH ?_
            simp only [Act.put, p1, p2, p3]
            refine tk 11 rfl hH ?_
            simp only [Act.put, p1, p2, p3]
            refine wpAnyH_done (by kernel_rfl) ?_ _
            go_wp2_with (first
              | (refine sR rfl (hM.out.at 2 rfl) rfl ((rwF 0 0).len (rwF 10 (i : Nat))) (rwF 10 (i : Nat)) ?_
                 replace hM := hid (hM.out.put 2 rfl [.int .i64 10, .int .i64 (i : Nat)] ((rwF 0 0).len (rwF 10 (i : Nat))))
                 generalize World.setCells _ _ _ _ = W at hM ⊢))
            exact bodyPost_ret (res1 Tryd.results11 (hM.out.at 2 rfl) (rwF 10 (i : Nat))) rfl ⟨10, (i : Nat), JR.order HI.out.2 CF.out HB.out, rfl, hM.out.below⟩
          · clear hor hk
            by_cases h1 : kd = 1
            · subst kd
              clear hst he hop h3 h2
              obtain ⟨be, hbe⟩ : ∃ q, q = W.heap.size := ⟨_, rfl⟩
              have HBE : Hid _ := hbe
              clear hbe
              have hM2 : Hid _ := hid (hM.out.born [.int .i64 1, .int .i64 th, .int .i64 o, .int .i64 k, .int .i64 x, .int .i64 cc, .int .i64 y, .int .i64 wh, .int .i64 st] 85 HBE.out)
              go_wp2_with (first
                | (refine lO rfl RA.out rfl (rwEv 1 th o k x cc y wh st) ?_; clear RA))
              replace hM := hM2
              clear hM2
              rw [← HBE.out]
              generalize World.alloc _ _ = W at hM ⊢
              clear HBE
              refine (openOf_is hM.out HL.out (by have := HI.out; have := HC.out; omega) (i5 := 1) rfl th).mono ?_
              rintro e ux ⟨rfl, hw⟩
              rw [hw]; clear hw ux
              have c1 := hM.out.cell 0 0 rfl rfl
              rw [HV.out]
              go_wp2_with (first
                | (refine sR rfl (hM.out.at 2 rfl) rfl ((rwF 0 0).len (rwF 10 (i : Nat))) (rwF 10 (i : Nat)) ?_
                   replace hM := hid (hM.out.put 2 rfl [.int .i64 10, .int .i64 (i : Nat)] ((rwF 0 0).len (rwF 10 (i : Nat))))
                   generalize World.setCells _ _ _ _ = W at hM ⊢))
              clear c1
              exact bodyPost_ret (res1 Tryd.results11 (hM.out.at 2 rfl) (rwF 10 (i : Nat))) rfl ⟨10, (i : Nat), JR.order HI.out.2 CF.out HB.out, rfl, hM.out.below⟩
            · have k1 : (kd == 1) = false := beq_eq_false_iff_ne.2 h1
              have k2 : (kd == 2) = false := beq_eq_false_iff_ne.2 h2
              have k3 : (kd == 3) = false := beq_eq_false_iff_ne.2 h3
              clear hst he hop h3 h1 h2
              obtain ⟨be, hbe⟩ : ∃ q, q = W.heap.size := ⟨_, rfl⟩
              have HBE : Hid _ := hbe
              clear hbe
              have hM2 : Hid _ := hid (hM.out.born [.int .i64 kd, .int .i64 th, .int .i64 o, .int .i64 k, .int .i64 x, .int .i64 cc, .int .i64 y, .int .i64 wh, .int .i64 st] 85 HBE.out)
              go_wp2_with (first
                | (refine lO rfl RA.out rfl (rwEv kd th o k x cc y wh st) ?_; clear RA))
              replace hM := hM2
              clear hM2
              rw [← HBE.out]
              generalize World.alloc _ _ = W at hM ⊢
              clear HBE
              refine (openOf_is hM.out HL.out (by have := HI.out; have := HC.out; omega) (i5 := 1) rfl th).mono ?_
              rintro e ux ⟨rfl, hw⟩
              rw [hw]; clear hw ux
              have c1 := hM.out.cell 0 0 rfl rfl
              rw [HV.out]
              go_wp2_with (first
                | (refine sR rfl (hM.out.at 2 rfl) rfl ((rwF 0 0).len (rwF 10 (i : Nat))) (rwF 10 (i : Nat)) ?_
                   replace hM := hid (hM.out.put 2 rfl [.int .i64 10, .int .i64 (i : Nat)] ((rwF 0 0).len (rwF 10 (i : Nat))))
                   generalize World.setCells _ _ _ _ = W at hM ⊢))
              clear c1
              exact bodyPost_ret (res1 Tryd.results11 (hM.out.at 2 rfl) (rwF 10 (i : Nat))) rfl ⟨10, (i : Nat), JR.order HI.out.2 CF.out HB.out, rfl, hM.out.below⟩
    · have hin : n = i := by omega
      subst hin
      have hx1 : ¬ (n : Int) < (n : Int) := by omega
      obtain ⟨va, vcap, hv⟩ := hM.out.len
      rw [HL.out] at hv
      subst hv
      obtain ⟨m1, hm1⟩ : ∃ q, q = m + 1 := ⟨_, rfl⟩
      have HM1 : Hid _ := hm1
      have mk : ∀ w : World, (Instr.makeSlice 82 (.int .i64 (m1 : Nat)) (.int .i64 (m1 : Nat))).run Tryd.prog w = .ok (.slice (some ⟨w.heap.size, 0, none⟩) m1 m1) (w.alloc (.cells (byp bs (List.replicate m none)).toArray 83)) := by rw [hm1]; exact fun w => mkcp bs m HC.out.2 w
      have hw1 : wrap64 ((m : Int) + 1) = (m1 : Nat) := by rw [hm1]; have := HC.out; unfold wrap64; omega
      obtain ⟨bz, hbz⟩ : ∃ q, q = W.heap.size := ⟨_, rfl⟩
      have HBZ : Hid _ := hbz
      have hM2 : Hid _ := hid (hM.out.born (byp bs (List.replicate m none)) 83 HBZ.out)
      have cv := hM2.out.cell 1 0 rfl rfl
      clear hm1 hbz hM
      go_wp2_with fail
      clear cv mk hw1 hx1
      rw [← HBZ.out]
      generalize World.alloc _ _ = W at hM2 ⊢
      clear HBZ
      have hM := hM2
      clear hM2
      go_loopg [78] cs.length (fun gg s78 wt => ∃ (i : Nat) (bl : List (Option Nat)) (hs : Nat → Nat), i ≤ cs.length ∧ cs.length - i ≤ gg ∧ s78 = .int .i64 i ∧ Hid (ansF h q m cs i = .ok bl) ∧ Hid (∀ k a, cs[k]? = some (a, none) → hs k = 0) ∧ Hid (Jm n0 w wt [(bz, byp bs bl), ((n0 + 1), [(.slice va cs.length vcap)]), (n0, [.int .i64 0, .int .i64 0])] (.slice va cs.length vcap) bs bs (frow h cs hs)))
      case atStart => exact ⟨0, _, _, by omega, by omega, rfl, hid rfl, hid (fun _ _ _ => rfl), hM⟩
      case round =>
        clear hM
        obtain ⟨i, bl, hs, hi, hgg, rfl, AF, HS, hM⟩ := hrel
        obtain ⟨W, rfl⟩ : ∃ q, q = wr := ⟨_, rfl⟩
        by_cases hlt : i < cs.length
        · have hi1 : (i : Int) < (cs.length : Int) := by omega
          have hi0 : (0 : Int) ≤ (i : Int) := by omega
          have HI : Hid (i < cs.length ∧ cs.length ≤ n) := ⟨hlt, GG.out.len⟩
          have AFL : Hid (bl.length = m) := hid (ansF_len AF.out)
          obtain ⟨gp, hva, hlc, c0⟩ := hM.out.at_ptr (k := i) (by rw [HL.out]; exact hlt)
          subst hva
          obtain ⟨bq, hbq⟩ : ∃ q, bk bs i = q := ⟨_, rfl⟩
          have HBQ : Hid _ := hbq
          rw [hbq] at c0
          unfold ptr at c0
          obtain ⟨⟨a, zz⟩, hk⟩ : ∃ c, cs[i]? = some c := ⟨cs[i]'hlt, List.getElem?_eq_getElem hlt⟩
          have HK : Hid _ := hk
          have CR : Hid (∀ {W : World} {F : List (Nat × List Value)} (J : Jm n0 w W F (.slice (some ⟨gp, 0, none⟩) cs.length vcap) bs bs (frow h cs hs)), Bo W bq (cr (h a) a (tv zz) (hs i))) := fun J => J.row HL.out hk hbq rfl rfl
          cases zz with
          | none =>
            · have c1 : W.cell? ⟨bq, 10, none⟩ = some (.int .i64 (-1)) := (CR.out hM.out).cell 10 _ rfl
              have AF2 : Hid (ansF h q m cs (i + 1) = .ok bl) := by rw [ansF_step AF.out, cg_of HK.out]; rfl
              clear hk hbq hlc
              go_wp2
              clear c0 c1
              go_roundg (cs.length - (i + 1))
              case measure => omega
              case rel => exact ⟨i + 1, bl, hs, by omega, by omega, (by have := HC.out; have := HI.out; have hw : wrap64 ((i : Int) + 1) = ((i + 1 : Nat) : Int) := (by unfold wrap64; omega); rw [hw]), AF2, HS, hM⟩
          | some z =>
            have c1 : W.cell? ⟨bq, 10, none⟩ = some (.int .i64 (z : Nat)) := (CR.out hM.out).cell 10 _ rfl
            have hz : ¬ ((z : Int) < 0) := by omega
            have hzn : z < n := (GG.out.lt _ (List.mem_of_getElem? hk)).2 z rfl
            have hz1 : (z : Int) < (n : Int) := by omega
            have hz0 : (0 : Int) ≤ (z : Int) := by omega
            obtain ⟨eb, eo, rfl, hec⟩ := HE.out.some (by omega)
            have hrow := (HE.out.all W hM.out.below z hzn).1
            obtain ⟨⟨kd, th, o, k, x, cc, y, wh, st⟩, he⟩ : ∃ e, h z = e := ⟨_, rfl⟩
            rw [he] at hrow
            cases hst : stepA h q m i (a, some z) bl with
            | error er =>
              have JRE : Hid (JR h q n m er (-1)) := hid (JR.ans CF.out hlt AF.out (by rw [cg_of hk]; exact hst))
              obtain ⟨z', hz', ⟨hwh, her⟩ | ⟨hwh, hwm, her⟩ | ⟨p, hwh, hp, ⟨hsm, her⟩ | ⟨hsm, ⟨x0, hbp⟩, her⟩⟩⟩ := stepA_err AFL.out hst
              · replace hz' : some z = some z' := hz'
                obtain rfl : z = z' := by injection hz'
                subst her
                rw [he] at hwh
                replace hwh : wh < 1 := hwh
                clear hst hk hbq he hz' hlc hec
                have RA : Hid (W.rangeAt eb (eo + z * 9) [.int .i64 kd, .int .i64 th, .int .i64 o, .int .i64 k, .int .i64 x, .int .i64 cc, .int .i64 y, .int .i64 wh, .int .i64 st]) := hrow
                clear hrow
                obtain ⟨be, hb0⟩ : ∃ q, q = W.heap.size := ⟨_, rfl⟩
                have HBE : Hid _ := hb0
                clear hb0
                have hM2 : Hid _ := hid (hM.out.born [.int .i64 kd, .int .i64 th, .int .i64 o, .int .i64 k, .int .i64 x, .int .i64 cc, .int .i64 y, .int .i64 wh, .int .i64 st] 85 HBE.out)
                go_wp2_with (first
                  | (refine lO rfl RA.out rfl (rwEv kd th o k x cc y wh st) ?_; clear RA))
                clear c0 c1
                have hM := hM2
                clear hM2
                rw [← HBE.out]
                generalize World.alloc _ _ = W at hM ⊢
                clear HBE
                refine (rwithin_no _ _ _ _ (Or.inl hwh)).mono ?_
                rintro e ux ⟨rfl, hw⟩
                rw [hw]; clear hw ux
                go_wp2_with fail
                refine (bare_is 7 _).mono ?_
                rintro e W ⟨rfl, hb⟩
                replace hM := hid (hM.out.later hb)
                clear hb
                go_wp2_with (first
                  | (refine sR rfl (hM.out.at 3 rfl) rfl ((rwF 0 0).len (rwF 7 (-1))) (rwF 7 (-1)) ?_
                     replace hM := hid (hM.out.put 3 rfl [.int .i64 7, .int .i64 (-1)] ((rwF 0 0).len (rwF 7 (-1))))
                     generalize World.setCells _ _ _ _ = W at hM ⊢))
                exact bodyPost_ret (res1 Tryd.results11 (hM.out.at 3 rfl) (rwF 7 (-1))) rfl ⟨7, (-1), JRE.out, rfl, hM.out.below⟩
              · replace hz' : some z = some z' := hz'
                obtain rfl : z = z' := by injection hz'
                subst her
                rw [he] at hwm
                replace hwm : (m : Int) < wh := hwm
                clear hst hk hbq he hz' hlc hec hwh
                have RA : Hid (W.rangeAt eb (eo + z * 9) [.int .i64 kd, .int .i64 th, .int .i64 o, .int .i64 k, .int .i64 x, .int .i64 cc, .int .i64 y, .int .i64 wh, .int .i64 st]) := hrow
                clear hrow
                obtain ⟨be, hb0⟩ : ∃ q, q = W.heap.size := ⟨_, rfl⟩
                have HBE : Hid _ := hb0
                clear hb0
                have hM2 : Hid _ := hid (hM.out.born [.int .i64 kd, .int .i64 th, .int .i64 o, .int .i64 k, .int .i64 x, .int .i64 cc, .int .i64 y, .int .i64 wh, .int .i64 st] 85 HBE.out)
                go_wp2_with (first
                  | (refine lO rfl RA.out rfl (rwEv kd th o k x cc y wh st) ?_; clear RA))
                clear c0 c1
                have hM := hM2
                clear hM2
                rw [← HBE.out]
                generalize World.alloc _ _ = W at hM ⊢
                clear HBE
                refine (rwithin_no _ _ _ _ (Or.inr hwm)).mono ?_
                rintro e ux ⟨rfl, hw⟩
                rw [hw]; clear hw ux
                go_wp2_with fail
                refine (bare_is 7 _).mono ?_
                rintro e W ⟨rfl, hb⟩
                replace hM := hid (hM.out.later hb)
                clear hb
                go_wp2_with (first
                  | (refine sR rfl (hM.out.at 3 rfl) rfl ((rwF 0 0).len (rwF 7 (-1))) (rwF 7 (-1)) ?_
                     replace hM := hid (hM.out.put 3 rfl [.int .i64 7, .int .i64 (-1)] ((rwF 0 0).len (rwF 7 (-1))))
                     generalize World.setCells _ _ _ _ = W at hM ⊢))
                exact bodyPost_ret (res1 Tryd.results11 (hM.out.at 3 rfl) (rwF 7 (-1))) rfl ⟨7, (-1), JRE.out, rfl, hM.out.below⟩
              · replace hz' : some z = some z' := hz'
                obtain rfl : z = z' := by injection hz'
                subst her
                rw [he] at hwh hsm
                obtain ⟨u, hu⟩ : ∃ q, q = p + 1 := ⟨_, rfl⟩
                have HU : Hid _ := hu
                replace hwh : wh = (p : Nat) + 1 := hwh
                obtain rfl : wh = (u : Nat) := by omega
                have hsub : wrap64 ((u : Int) - 1) = (p : Nat) := by have := HC.out; unfold wrap64; omega
                have hp1 : (p : Int) < (m : Int) := by omega
                have hp0 : (0 : Int) ≤ (p : Int) := by omega
                have hu1 : (u : Int) < (m1 : Int) := by have := HM1.out; omega
                have hu0 : (0 : Int) ≤ (u : Int) := by omega
                obtain ⟨db, doff, rfl, hdc⟩ := HD.out.some (by omega)
                obtain ⟨⟨dt, dO, dk, dx, dc, dy⟩, hq⟩ : ∃ d, q p = d := ⟨_, rfl⟩
                have hdr := fun W hb => HD.out.row W hb p hp
                rw [hq] at hdr hsm
                have DA : Hid (∀ W, Below w.heap.size w W → W.rangeAt db (doff + p * 6) [.int .i64 dt, .int .i64 dO, .int .i64 dk, .int .i64 dx, .int .i64 dc, .int .i64 dy]) := hdr
                have HP : Hid (p < m) := hp
                clear hst hk hbq he hz' hlc hec hdr hq hdc hwh hu hp hzn
                by_cases h1 : th = dt
                · subst h1
                  by_cases h2 : (dO, dk, dx) = (o, k, x)
                  · have EQ := fun w => op_eq dO dk dx o k x true ⟨fun _ => h2, fun _ => rfl⟩ w
                    have AQ := fun w => ans_eq dc dy cc y false ⟨fun h => (by cases h), fun h => absurd ⟨rfl, h2, h.1, h.2⟩ hsm⟩ w
                    clear h2 hsm
                    have RA : Hid (W.rangeAt eb (eo + z * 9) [.int .i64 kd, .int .i64 th, .int .i64 o, .int .i64 k, .int .i64 x, .int .i64 cc, .int .i64 y, .int .i64 (u : Nat), .int .i64 st]) := hrow
                    clear hrow
                    obtain ⟨be, hb0⟩ : ∃ q, q = W.heap.size := ⟨_, rfl⟩
                    have HBE : Hid _ := hb0
                    clear hb0
                    have hM2 : Hid _ := hid (hM.out.born [.int .i64 kd, .int .i64 th, .int .i64 o, .int .i64 k, .int .i64 x, .int .i64 cc, .int .i64 y, .int .i64 (u : Nat), .int .i64 st] 85 HBE.out)
                    go_wp2_with (first
                      | (refine lO rfl RA.out rfl (rwEv kd th o k x cc y (u : Nat) st) ?_; clear RA))
                    clear c0 c1
                    have hM := hM2
                    clear hM2
                    rw [← HBE.out]
                    generalize World.alloc _ _ = W at hM ⊢
                    clear HBE
                    refine (rwithin_yes _ _ _ _ (show (1 : Int) ≤ (u : Int) by have := HU.out; omega) (show (u : Int) ≤ (m : Int) by have := HU.out; have := HP.out; omega)).mono ?_
                    rintro e ux ⟨rfl, hw⟩
                    rw [hw]; clear hw ux
                    have RD : Hid _ := hid (DA.out _ hM.out.below)
                    have g7 := hM.out.cell 0 7 rfl rfl
                    obtain ⟨bd, hb0⟩ : ∃ q, q = W.heap.size := ⟨_, rfl⟩
                    have HBD : Hid _ := hb0
                    clear hb0
                    have hM2 : Hid _ := hid (hM.out.born [.int .i64 th, .int .i64 dO, .int .i64 dk, .int .i64 dx, .int .i64 dc, .int .i64 dy] 53 HBD.out)
                    have e1 := hM2.out.cell 1 1 rfl rfl
                    have e2 := hM2.out.cell 1 2 rfl rfl
                    have e3 := hM2.out.cell 1 3 rfl rfl
                    have e4 := hM2.out.cell 1 4 rfl rfl
                    have e5 := hM2.out.cell 1 5 rfl rfl
                    have e6 := hM2.out.cell 1 6 rfl rfl
                    have e7 := hM2.out.cell 1 7 rfl rfl
                    go_wp2_with (first
                      | (refine lO rfl RD.out rfl (rwD th dO dk dx dc dy) ?_; clear RD))
                    clear g7 e1 e2 e3 e4 e5 e6 e7
                    have hM := hM2
                    clear hM2
                    rw [← HBD.out]
                    generalize World.alloc _ _ = W at hM ⊢
                    clear HBD
                    refine (bare_is 13 _).mono ?_
                    rintro e W ⟨rfl, hb⟩
                    replace hM := hid (hM.out.later hb)
                    clear hb
                    go_wp2_with (first
                      | (refine sR rfl (hM.out.at 4 rfl) rfl ((rwF 0 0).len (rwF 13 (-1))) (rwF 13 (-1)) ?_
                         replace hM := hid (hM.out.put 4 rfl [.int .i64 13, .int .i64 (-1)] ((rwF 0 0).len (rwF 13 (-1))))
                         generalize World.setCells _ _ _ _ = W at hM ⊢))
                    exact bodyPost_ret (res1 Tryd.results11 (hM.out.at 4 rfl) (rwF 13 (-1))) rfl ⟨13, (-1), JRE.out, rfl, hM.out.below⟩
                  · have EQ := fun w => op_eq dO dk dx o k x false ⟨fun h => (by cases h), fun h => absurd h h2⟩ w
                    clear h2 hsm
                    have RA : Hid (W.rangeAt eb (eo + z * 9) [.int .i64 kd, .int .i64 th, .int .i64 o, .int .i64 k, .int .i64 x, .int .i64 cc, .int .i64 y, .int .i64 (u : Nat), .int .i64 st]) := hrow
                    clear hrow
                    obtain ⟨be, hb0⟩ : ∃ q, q = W.heap.size := ⟨_, rfl⟩
                    have HBE : Hid _ := hb0
                    clear hb0
                    have hM2 : Hid _ := hid (hM.out.born [.int .i64 kd, .int .i64 th, .int .i64 o, .int .i64 k, .int .i64 x, .int .i64 cc, .int .i64 y, .int .i64 (u : Nat), .int .i64 st] 85 HBE.out)
                    go_wp2_with (first
                      | (refine lO rfl RA.out rfl (rwEv kd th o k x cc y (u : Nat) st) ?_; clear RA))
                    clear c0 c1
                    have hM := hM2
                    clear hM2
                    rw [← HBE.out]
                    generalize World.alloc _ _ = W at hM ⊢
                    clear HBE
                    refine (rwithin_yes _ _ _ _ (show (1 : Int) ≤ (u : Int) by have := HU.out; omega) (show (u : Int) ≤ (m : Int) by have := HU.out; have := HP.out; omega)).mono ?_
                    rintro e ux ⟨rfl, hw⟩
                    rw [hw]; clear hw ux
                    have RD : Hid _ := hid (DA.out _ hM.out.below)
                    have g7 := hM.out.cell 0 7 rfl rfl
                    obtain ⟨bd, hb0⟩ : ∃ q, q = W.heap.size := ⟨_, rfl⟩
                    have HBD : Hid _ := hb0
                    clear hb0
                    have hM2 : Hid _ := hid (hM.out.born [.int .i64 th, .int .i64 dO, .int .i64 dk, .int .i64 dx, .int .i64 dc, .int .i64 dy] 53 HBD.out)
                    have e1 := hM2.out.cell 1 1 rfl rfl
                    have e2 := hM2.out.cell 1 2 rfl rfl
                    have e3 := hM2.out.cell 1 3 rfl rfl
                    have e4 := hM2.out.cell 1 4 rfl rfl
                    have e5 := hM2.out.cell 1 5 rfl rfl
                    have e6 := hM2.out.cell 1 6 rfl rfl
                    have e7 := hM2.out.cell 1 7 rfl rfl
                    go_wp2_with (first
                      | (refine lO rfl RD.out rfl (rwD th dO dk dx dc dy) ?_; clear RD))
                    clear g7 e1 e2 e3 e4 e5 e6 e7
                    have hM := hM2
                    clear hM2
                    rw [← HBD.out]
                    generalize World.alloc _ _ = W at hM ⊢
                    clear HBD
                    refine (bare_is 13 _).mono ?_
                    rintro e W ⟨rfl, hb⟩
                    replace hM := hid (hM.out.later hb)
                    clear hb
                    go_wp2_with (first
                      | (refine sR rfl (hM.out.at 4 rfl) rfl ((rwF 0 0).len (rwF 13 (-1))) (rwF 13 (-1)) ?_
                         replace hM := hid (hM.out.put 4 rfl [.int .i64 13, .int .i64 (-1)] ((rwF 0 0).len (rwF 13 (-1))))
                         generalize World.setCells _ _ _ _ = W at hM ⊢))
                    exact bodyPost_ret (res1 Tryd.results11 (hM.out.at 4 rfl) (rwF 13 (-1))) rfl ⟨13, (-1), JRE.out, rfl, hM.out.below⟩
                · have hd : ¬ dt = th := fun e => h1 e.symm
                  clear h1 hsm
                  have RA : Hid (W.rangeAt eb (eo + z * 9) [.int .i64 kd, .int .i64 th, .int .i64 o, .int .i64 k, .int .i64 x, .int .i64 cc, .int .i64 y, .int .i64 (u : Nat), .int .i64 st]) := hrow
                  clear hrow
                  obtain ⟨be, hb0⟩ : ∃ q, q = W.heap.size := ⟨_, rfl⟩
                  have HBE : Hid _ := hb0
                  clear hb0
                  have hM2 : Hid _ := hid (hM.out.born [.int .i64 kd, .int .i64 th, .int .i64 o, .int .i64 k, .int .i64 x, .int .i64 cc, .int .i64 y, .int .i64 (u : Nat), .int .i64 st] 85 HBE.out)
                  go_wp2_with (first
                    | (refine lO rfl RA.out rfl (rwEv kd th o k x cc y (u : Nat) st) ?_; clear RA))
                  clear c0 c1
                  have hM := hM2
                  clear hM2
                  rw [← HBE.out]
                  generalize World.alloc _ _ = W at hM ⊢
                  clear HBE
                  refine (rwithin_yes _ _ _ _ (show (1 : Int) ≤ (u : Int) by have := HU.out; omega) (show (u : Int) ≤ (m : Int) by have := HU.out; have := HP.out; omega)).mono ?_
                  rintro e ux ⟨rfl, hw⟩
                  rw [hw]; clear hw ux
                  have RD : Hid _ := hid (DA.out _ hM.out.below)
                  have g7 := hM.out.cell 0 7 rfl rfl
                  obtain ⟨bd, hb0⟩ : ∃ q, q = W.heap.size := ⟨_, rfl⟩
                  have HBD : Hid _ := hb0
                  clear hb0
                  have hM2 : Hid _ := hid (hM.out.born [.int .i64 dt, .int .i64 dO, .int .i64 dk, .int .i64 dx, .int .i64 dc, .int .i64 dy] 53 HBD.out)
                  have e1 := hM2.out.cell 1 1 rfl rfl
                  have e2 := hM2.out.cell 1 2 rfl rfl
                  have e3 := hM2.out.cell 1 3 rfl rfl
                  have e4 := hM2.out.cell 1 4 rfl rfl
                  have e5 := hM2.out.cell 1 5 rfl rfl
                  have e6 := hM2.out.cell 1 6 rfl rfl
                  have e7 := hM2.out.cell 1 7 rfl rfl
                  go_wp2_with (first
                    | (refine lO rfl RD.out rfl (rwD dt dO dk dx dc dy) ?_; clear RD))
                  clear g7 e1 e2 e3 e4 e5 e6 e7
                  have hM := hM2
                  clear hM2
                  rw [← HBD.out]
                  generalize World.alloc _ _ = W at hM ⊢
                  clear HBD
                  refine (bare_is 13 _).mono ?_
                  rintro e W ⟨rfl, hb⟩
                  replace hM := hid (hM.out.later hb)
                  clear hb
                  go_wp2_with (first
                    | (refine sR rfl (hM.out.at 4 rfl) rfl ((rwF 0 0).len (rwF 13 (-1))) (rwF 13 (-1)) ?_
                       replace hM := hid (hM.out.put 4 rfl [.int .i64 13, .int .i64 (-1)] ((rwF 0 0).len (rwF 13 (-1))))
                       generalize World.setCells _ _ _ _ = W at hM ⊢))
                  exact bodyPost_ret (res1 Tryd.results11 (hM.out.at 4 rfl) (rwF 13 (-1))) rfl ⟨13, (-1), JRE.out, rfl, hM.out.below⟩
              · replace hz' : some z = some z' := hz'
                obtain rfl : z = z' := by injection hz'
                subst her
                rw [he] at hwh hsm
                obtain ⟨u, hu⟩ : ∃ q, q = p + 1 := ⟨_, rfl⟩
                have HU : Hid _ := hu
                replace hwh : wh = (p : Nat) + 1 := hwh
                obtain rfl : wh = (u : Nat) := by omega
                have hsub : wrap64 ((u : Int) - 1) = (p : Nat) := by have := HC.out; unfold wrap64; omega
                have hp1 : (p : Int) < (m : Int) := by omega
                have hp0 : (0 : Int) ≤ (p : Int) := by omega
                have hu1 : (u : Int) < (m1 : Int) := by have := HM1.out; omega
                have hu0 : (0 : Int) ≤ (u : Int) := by omega
                obtain ⟨db, doff, rfl, hdc⟩ := HD.out.some (by omega)
                obtain ⟨⟨dt, dO, dk, dx, dc, dy⟩, hq⟩ : ∃ d, q p = d := ⟨_, rfl⟩
                have hdr := fun W hb => HD.out.row W hb p hp
                rw [hq] at hdr hsm
                have DA : Hid (∀ W, Below w.heap.size w W → W.rangeAt db (doff + p * 6) [.int .i64 dt, .int .i64 dO, .int .i64 dk, .int .i64 dx, .int .i64 dc, .int .i64 dy]) := hdr
                have HP : Hid (p < m) := hp
                obtain ⟨rfl, rfl, rfl, rfl, rfl, rfl⟩ : th = dt ∧ o = dO ∧ k = dk ∧ x = dx ∧ cc = dc ∧ y = dy := by
                  obtain ⟨g1, g2, g3, g4⟩ := hsm
                  have g2 : (dO, dk, dx) = (o, k, x) := g2
                  injection g2 with g2 g5
                  injection g5 with g5 g6
                  exact ⟨g1.symm, g2.symm, g5.symm, g6.symm, g3.symm, g4.symm⟩
                have EQ := fun w => op_eq o k x o k x true (by simp) w
                have AQ := fun w => ans_eq cc y cc y true (by simp) w
                have HBP : Hid _ := hbp
                clear hst hk hbq he hz' hlc hec hdr hq hdc hwh hu hp hzn hbp hsm
                have RA : Hid (W.rangeAt eb (eo + z * 9) [.int .i64 kd, .int .i64 th, .int .i64 o, .int .i64 k, .int .i64 x, .int .i64 cc, .int .i64 y, .int .i64 (u : Nat), .int .i64 st]) := hrow
                clear hrow
                obtain ⟨be, hb0⟩ : ∃ q, q = W.heap.size := ⟨_, rfl⟩
                have HBE : Hid _ := hb0
                clear hb0
                have hM2 : Hid _ := hid (hM.out.born [.int .i64 kd, .int .i64 th, .int .i64 o, .int .i64 k, .int .i64 x, .int .i64 cc, .int .i64 y, .int .i64 (u : Nat), .int .i64 st] 85 HBE.out)
                go_wp2_with (first
                  | (refine lO rfl RA.out rfl (rwEv kd th o k x cc y (u : Nat) st) ?_; clear RA))
                clear c0 c1
                have hM := hM2
                clear hM2
                rw [← HBE.out]
                generalize World.alloc _ _ = W at hM ⊢
                clear HBE
                refine (rwithin_yes _ _ _ _ (show (1 : Int) ≤ (u : Int) by have := HU.out; omega) (show (u : Int) ≤ (m : Int) by have := HU.out; have := HP.out; omega)).mono ?_
                rintro e ux ⟨rfl, hw⟩
                rw [hw]; clear hw ux
                have RD : Hid _ := hid (DA.out _ hM.out.below)
                have g7 := hM.out.cell 0 7 rfl rfl
                obtain ⟨bd, hb0⟩ : ∃ q, q = W.heap.size := ⟨_, rfl⟩
                have HBD : Hid _ := hb0
                clear hb0
                have hM2 : Hid _ := hid (hM.out.born [.int .i64 th, .int .i64 o, .int .i64 k, .int .i64 x, .int .i64 cc, .int .i64 y] 53 HBD.out)
                have e1 := hM2.out.cell 1 1 rfl rfl
                have e2 := hM2.out.cell 1 2 rfl rfl
                have e3 := hM2.out.cell 1 3 rfl rfl
                have e4 := hM2.out.cell 1 4 rfl rfl
                have e5 := hM2.out.cell 1 5 rfl rfl
                have e6 := hM2.out.cell 1 6 rfl rfl
                have e7 := hM2.out.cell 1 7 rfl rfl
                have cby := hM2.out.cell (u := Value.pointer (some ⟨bk bs x0, 0, none⟩)) 2 u rfl (by rw [HU.out]; exact byp_get HBP.out)
                go_wp2_with (first
                  | (refine lO rfl RD.out rfl (rwD th o k x cc y) ?_; clear RD))
                clear g7 e1 e2 e3 e4 e5 e6 e7 cby
                have hM := hM2
                clear hM2
                rw [← HBD.out]
                generalize World.alloc _ _ = W at hM ⊢
                clear HBD
                refine (bare_is 9 _).mono ?_
                rintro e W ⟨rfl, hb⟩
                replace hM := hid (hM.out.later hb)
                clear hb
                go_wp2_with (first
                  | (refine sR rfl (hM.out.at 4 rfl) rfl ((rwF 0 0).len (rwF 9 (-1))) (rwF 9 (-1)) ?_
                     replace hM := hid (hM.out.put 4 rfl [.int .i64 9, .int .i64 (-1)] ((rwF 0 0).len (rwF 9 (-1))))
                     generalize World.setCells _ _ _ _ = W at hM ⊢))
                exact bodyPost_ret (res1 Tryd.results11 (hM.out.at 4 rfl) (rwF 9 (-1))) rfl ⟨9, (-1), JRE.out, rfl, hM.out.below⟩
            | ok b2 =>
              · rcases stepA_some AFL.out hst with ⟨hz', _⟩ | ⟨z', p, hz', hwh, hp, hsm, hbp, hb2⟩
                · cases hz'
                replace hz' : some z = some z' := hz'
                obtain rfl : z = z' := by injection hz'
                have AF2 : Hid (ansF h q m cs (i + 1) = .ok b2) := by rw [ansF_step AF.out, cg_of HK.out]; exact hst
                rw [he] at hwh hsm
                obtain ⟨u, hu⟩ : ∃ q, q = p + 1 := ⟨_, rfl⟩
                have HU : Hid _ := hu
                replace hwh : wh = (p : Nat) + 1 := hwh
                obtain rfl : wh = (u : Nat) := by omega
                have hsub : wrap64 ((u : Int) - 1) = (p : Nat) := by have := HC.out; unfold wrap64; omega
                have hp1 : (p : Int) < (m : Int) := by omega
                have hp0 : (0 : Int) ≤ (p : Int) := by omega
                have hu1 : (u : Int) < (m1 : Int) := by have := HM1.out; omega
                have hu0 : (0 : Int) ≤ (u : Int) := by omega
                obtain ⟨db, doff, rfl, hdc⟩ := HD.out.some (by omega)
                obtain ⟨⟨dt, dO, dk, dx, dc, dy⟩, hq⟩ : ∃ d, q p = d := ⟨_, rfl⟩
                have hdr := fun W hb => HD.out.row W hb p hp
                rw [hq] at hdr hsm
                have DA : Hid (∀ W, Below w.heap.size w W → W.rangeAt db (doff + p * 6) [.int .i64 dt, .int .i64 dO, .int .i64 dk, .int .i64 dx, .int .i64 dc, .int .i64 dy]) := hdr
                have HP : Hid (p < m) := hp
                obtain ⟨rfl, rfl, rfl, rfl, rfl, rfl⟩ : th = dt ∧ o = dO ∧ k = dk ∧ x = dx ∧ cc = dc ∧ y = dy := by
                  obtain ⟨g1, g2, g3, g4⟩ := hsm
                  have g2 : (dO, dk, dx) = (o, k, x) := g2
                  injection g2 with g2 g5
                  injection g5 with g5 g6
                  exact ⟨g1.symm, g2.symm, g5.symm, g6.symm, g3.symm, g4.symm⟩
                have EQ := fun w => op_eq o k x o k x true (by simp) w
                have AQ := fun w => ans_eq cc y cc y true (by simp) w
                have HBP : Hid _ := hbp
                have DB : Hid _ := hb2
                clear hst hk hbq he hz' hlc hec hdr hq hdc hwh hu hp hzn hbp hb2 hsm
                have RA : Hid (W.rangeAt eb (eo + z * 9) [.int .i64 kd, .int .i64 th, .int .i64 o, .int .i64 k, .int .i64 x, .int .i64 cc, .int .i64 y, .int .i64 (u : Nat), .int .i64 st]) := hrow
                clear hrow
                obtain ⟨be, hb0⟩ : ∃ q, q = W.heap.size := ⟨_, rfl⟩
                have HBE : Hid _ := hb0
                clear hb0
                have hM2 : Hid _ := hid (hM.out.born [.int .i64 kd, .int .i64 th, .int .i64 o, .int .i64 k, .int .i64 x, .int .i64 cc, .int .i64 y, .int .i64 (u : Nat), .int .i64 st] 85 HBE.out)
                go_wp2_with (first
                  | (refine lO rfl RA.out rfl (rwEv kd th o k x cc y (u : Nat) st) ?_; clear RA))
                clear c0 c1
                have hM := hM2
                clear hM2
                rw [← HBE.out]
                generalize World.alloc _ _ = W at hM ⊢
                clear HBE
                refine (rwithin_yes _ _ _ _ (show (1 : Int) ≤ (u : Int) by have := HU.out; omega) (show (u : Int) ≤ (m : Int) by have := HU.out; have := HP.out; omega)).mono ?_
                rintro e ux ⟨rfl, hw⟩
                rw [hw]; clear hw ux
                have RD : Hid _ := hid (DA.out _ hM.out.below)
                have g7 := hM.out.cell 0 7 rfl rfl
                obtain ⟨bd, hb0⟩ : ∃ q, q = W.heap.size := ⟨_, rfl⟩
                have HBD : Hid _ := hb0
                clear hb0
                have hM2 : Hid _ := hid (hM.out.born [.int .i64 th, .int .i64 o, .int .i64 k, .int .i64 x, .int .i64 cc, .int .i64 y] 53 HBD.out)
                have e1 := hM2.out.cell 1 1 rfl rfl
                have e2 := hM2.out.cell 1 2 rfl rfl
                have e3 := hM2.out.cell 1 3 rfl rfl
                have e4 := hM2.out.cell 1 4 rfl rfl
                have e5 := hM2.out.cell 1 5 rfl rfl
                have e6 := hM2.out.cell 1 6 rfl rfl
                have e7 := hM2.out.cell 1 7 rfl rfl
                have cby := hM2.out.cell (u := Value.pointer none) 2 u rfl (by rw [HU.out]; exact byp_get HBP.out)
                go_wp2_with (first
                  | (refine lO rfl RD.out rfl (rwD th o k x cc y) ?_; clear RD))
                clear g7 e1 e2 e3 e4 e5 e6 e7 cby
                have hM := hM2
                clear hM2
                rw [← HBD.out]
                generalize World.alloc _ _ = W at hM ⊢
                clear HBD
                replace hM := hid (hM.out.drew)
                refine wp_region_held_drew (S := fun w' => Bo w' be [.int .i64 kd, .int .i64 th, .int .i64 o, .int .i64 k, .int .i64 x, .int .i64 cc, .int .i64 y, .int .i64 (u : Nat), .int .i64 st]) (by kernel_rfl) (hM.out.at 1 rfl) (fun hH => ?_)
                generalize World.drew _ = W at hM hH  ⊢
                refine tk 0 rfl hH ?_
                simp only [Act.put, p1, p2, p3]
                refine tk 1 rfl hH ?_
                simp only [Act.put, p1, p2, p3]
                refine tk 2 rfl hH ?_ (by intro w h; have c0 := h.at 7 rfl; clear h; go_simp; try with_reducible rfl)
                simp only [Act.put, p1, p2, p3]
                refine tk 3 rfl hH ?_
                simp only [Act.put, p1, p2, p3]
                refine tk 4 rfl hH ?_
                simp only [Act.put, p1, p2, p3]
                refine tk 5 rfl hH ?_
                simp only [Act.put, p1, p2, p3]
                refine tk 6 rfl hH ?_ (by intro w h; have c0 := h.at 7 rfl; clear h; go_simp; try with_reducible rfl)
                simp only [Act.put, p1, p2, p3]
                refine tk 7 rfl hH ?_
                simp only [Act.put, p1, p2, p3]
                refine rd1 8 rfl (fun K hK => ?_)
                refine st1q rfl (hM.out.at 2 rfl) u (.pointer (some ⟨bq, 0, none⟩)) rfl sz_cp (by rw [byp_length, AFL.out, HU.out]; exact Nat.succ_lt_succ HP.out) ?_
                replace hM := hid (hM.out.put1 2 u rfl (.pointer (some ⟨bq, 0, none⟩)) (byp bs b2) (by rw [byp_length, AFL.out, HU.out]; exact Nat.succ_lt_succ HP.out) (by rw [HU.out, DB.out, ← HBQ.out]; exact byp_set bs bl p i))
                refine hK.out _ _ (hM.out.at 1 rfl) (fun hH => ?_)
                clear hK K
                generalize World.setCell _ _ _ = W at hM hH ⊢
                try simp only [Act.put]
                refine tk 9 rfl hH ?_
                simp only [Act.put, p1, p2, p3]
                refine tk 10 rfl hH ?_
                simp only [Act.put, p1, p2, p3]
                refine rd1 11 rfl (fun K hK => ?_)
                refine st1q rfl (CR.out hM.out) 11 (.int .i64 (u : Nat)) rfl sz_int (by show 11 < 12; omega) ?_
                have hM3 := hM.out.putC (k := i) (by rw [HL.out]; exact HI.out.1) 11 (.int .i64 (u : Nat)) (crow h (a, some z) u) (by show 11 < 12; omega) (by unfold frow; rw [cg_of HK.out]; rfl)
                rw [HBQ.out] at hM3
                replace hM := hid hM3
                clear hM3
                refine hK.out _ _ (hM.out.at 1 rfl) (fun hH => ?_)
                clear hK K
                generalize World.setCell _ _ _ = W at hM hH ⊢
                try simp only [Act.put]
                refine wpAnyH_done (by kernel_rfl) ?_ _
                have hM4 : Hid (Jm n0 w W [(bz, byp bs b2), ((n0 + 1), [(.slice (some ⟨gp, 0, none⟩) cs.length vcap)]), (n0, [.int .i64 0, .int .i64 0])] (.slice (some ⟨gp, 0, none⟩) cs.length vcap) bs bs (frow h cs (fun j => if j = i then u else hs j))) := hid (hM.out.tail.tail.congr fun j hj => by
                  show (if j = i then crow h (a, some z) u else crow h (cg cs j) (hs j)) = crow h (cg cs j) (if j = i then u else hs j)
                  by_cases e : j = i
                  · rw [if_pos e, if_pos e, e, cg_of HK.out]
                  · rw [if_neg e, if_neg e])
                have HS2 : Hid (∀ k a, cs[k]? = some (a, none) → (if k = i then u else hs k) = 0) := hid fun l b hl => by
                  by_cases e : l = i
                  · rw [e, HK.out] at hl; cases hl
                  · rw [if_neg e]; exact HS.out l b hl
                go_wp2
                go_roundg (cs.length - (i + 1))
                case measure => omega
                case rel => exact ⟨i + 1, b2, _, by omega, by omega, (by have := HC.out; have := HI.out; have hw : wrap64 ((i : Int) + 1) = ((i + 1 : Nat) : Int) := (by unfold wrap64; omega); rw [hw]), AF2, HS2, hM4⟩
        · obtain rfl : i = cs.length := by omega
          have hx2 : ¬ (cs.length : Int) < (cs.length : Int) := by omega
          go_wp2_with fail
          clear hx2
          go_loopg [15] m (fun gg s15 wt => ∃ (j u : Nat) (b3 : List (Option Nat)) (us : List Int) (hs : Nat → Nat), j ≤ m ∧ m - j ≤ gg ∧ s15 = .int .i64 (u : Nat) ∧ Hid (u = j + 1) ∧ Hid (opnF h q cs bl j = .ok (b3, us)) ∧ Hid (∀ k a, cs[k]? = some (a, none) → (0 < hs k ↔ (h a).th ∈ us)) ∧ Hid (Jm n0 w wt [(bz, byp bs b3), ((n0 + 1), [(.slice va cs.length vcap)]), (n0, [.int .i64 0, .int .i64 0])] (.slice va cs.length vcap) bs bs (frow h cs hs)))
          case atStart => exact ⟨0, 1, _, [], hs, by omega, by omega, rfl, hid rfl, hid rfl, hid (fun k a hk => ⟨fun hp => absurd hp (by rw [HS.out k a hk]; omega), fun hm => (by cases hm)⟩), hM⟩
          case round =>
            clear hM HS
            obtain ⟨j, u, b3, us, hs, hj, hgg, rfl, HU, OF, HS, hM⟩ := hrel
            obtain ⟨W, rfl⟩ : ∃ q, q = wr := ⟨_, rfl⟩
            have OFL : Hid (b3.length = m) := hid ((opnF_len OF.out).trans (ansF_len AF.out))
            by_cases hlt : j < m
            · have hum : (u : Int) ≤ (m : Int) := by have := HU.out; omega
              have hu1 : (u : Int) < (m1 : Int) := by have := HM1.out; have := HU.out; omega
              have hu0 : (0 : Int) ≤ (u : Int) := by omega
              have HJ : Hid (j < m) := hlt
              cases hst : stepO h q cs j (b3, us) with
              | error er =>
                have JRE : Hid (JR h q n m er (-1)) := hid (JR.opn CF.out AF.out hlt OF.out hst)
                obtain ⟨her, hb, hor⟩ := stepO_err (by rw [OFL.out]; exact hlt) hst
                subst her
                have HB : Hid _ := hb
                clear hst hb
                have cby := hM.out.cell (u := Value.pointer none) 0 u rfl (by rw [HU.out]; exact byp_get HB.out)
                have hsub : wrap64 ((u : Int) - 1) = (j : Nat) := by have := HC.out; have := HU.out; unfold wrap64; omega
                have hp1 : (j : Int) < (m : Int) := by omega
                have hp0 : (0 : Int) ≤ (j : Int) := by omega
                obtain ⟨db, doff, rfl, hdc⟩ := HD.out.some (by omega)
                obtain ⟨⟨dt, dO, dk, dx, dc, dy⟩, hq⟩ : ∃ d, q j = d := ⟨_, rfl⟩
                have HQ : Hid _ := hq
                have hdr := HD.out.row W hM.out.below j hlt
                rw [hq] at hdr
                have RD : Hid (W.rangeAt db (doff + j * 6) [.int .i64 dt, .int .i64 dO, .int .i64 dk, .int .i64 dx, .int .i64 dc, .int .i64 dy]) := hdr
                clear hdr hdc hq
                obtain ⟨bd, hb0⟩ : ∃ q, q = W.heap.size := ⟨_, rfl⟩
                have HBD : Hid _ := hb0
                clear hb0
                have hM2 : Hid _ := hid (hM.out.born [.int .i64 dt, .int .i64 dO, .int .i64 dk, .int .i64 dx, .int .i64 dc, .int .i64 dy] 53 HBD.out)
                rw [HQ.out] at hor
                have hcase : opn h cs dt = none ∨ ∃ kk a, opn h cs dt = some kk ∧ cs[kk]? = some (a, none) ∧ ((h a).op ≠ (q j).op ∨ 0 < hs kk) := by
                  rcases hor with h1 | ⟨kk, a, h1, h2, h3⟩
                  · by_cases hu : dt ∈ us
                    · cases e : opn h cs dt with
                      | none => exact Or.inl rfl
                      | some kk =>
                        obtain ⟨a, h2, h4⟩ := opn_hit e
                        exact Or.inr ⟨kk, a, rfl, h2, Or.inr ((HS.out kk a h2).2 (by rw [h4]; exact hu))⟩
                    · exact Or.inl (by unfold opu at h1; rw [if_neg hu] at h1; exact h1)
                  · exact Or.inr ⟨kk, a, (opu_hit h1).2, h2, Or.inl (by rw [HQ.out]; exact h3)⟩
                clear hor
                obtain hop | ⟨kk, a, hop, hk, hor⟩ := hcase
                · have HOP : Hid (opn h cs dt = none) := hop
                  clear hop
                  go_wp2_with (first
                    | (refine lO rfl RD.out rfl (rwD dt dO dk dx dc dy) ?_; clear RD))
                  clear cby hsub hp0 hp1
                  have hM := hM2
                  clear hM2
                  rw [← HBD.out]
                  generalize World.alloc _ _ = W at hM ⊢
                  clear HBD
                  refine (openOf_is hM.out HL.out (by have := GG.out.len; have := HC.out; omega) (i5 := 2) rfl dt).mono ?_
                  rintro e ux ⟨rfl, hw⟩
                  rw [hw]; clear hw ux
                  rw [HOP.out]
                  simp only [cp]
                  go_wp2_with fail
                  replace hM := hid (hM.out.drew)
                  refine wp_region_held_drew (S := fun w' => True) (by kernel_rfl) trivial (fun hH => ?_)
                  generalize World.drew _ = W at hM hH  ⊢
                  refine tk 0 rfl hH ?_
                  simp only [Act.put, p1, p2, p3]
                  refine tk 1 rfl hH ?_
                  simp only [Act.put, p1, p2, p3]
                  refine tk 2 rfl hH ?_
                  simp only [Act.put, p1, p2, p3]
                  refine tkN 3 rfl hH ?_
                  simp only [Act.put, p1, p2, p3]
                  refine tkN 4 rfl hH ?_
                  simp only [Act.put, p1, p2, p3]
                  refine tkN 5 rfl hH ?_
                  simp only [Act.put, p1, p2, p3]
                  refine tkN 6 rfl hH ?_
                  simp only [Act.put, p1, p2, p3]
                  refine tkN 7 rfl hH ?_
                  simp only [Act.put, p1, p2, p3]
                  refine tkN 8 rfl hH ?_
                  simp only [Act.put, p1, p2, p3]
                  refine tkN 9 rfl hH ?_
                  simp only [Act.put, p1, p2, p3]
                  refine tkN 10 rfl hH ?_
                  simp only [Act.put, p1, p2, p3]
                  refine tk 11 rfl hH ?_
                  simp only [Act.put, p1, p2, p3]
                  refine tk 12 rfl hH ?_
                  simp only [Act.put, p1, p2, p3]
                  refine tkN 13 rfl hH ?_
                  simp only [Act.put, p1, p2, p3]
                  refine tkN 14 rfl hH ?_
                  simp only [Act.put, p1, p2, p3]
                  refine tkN 15 rfl hH ?_
                  simp only [Act.put, p1, p2, p3]
                  refine tkN 16 rfl hH ?_
                  simp only [Act.put, p1, p2, p3]
                  refine tkN 17 rfl hH ?_
                  simp only [Act.put, p1, p2, p3]
                  refine tk 18 rfl hH ?_
                  simp only [Act.put, p1, p2, p3]
                  refine wpAnyH_done (by kernel_rfl) ?_ _
                  go_wp2_with fail
                  refine (bare_is 8 _).mono ?_
                  rintro e W ⟨rfl, hb⟩
                  replace hM := hid (hM.out.later hb)
                  clear hb
                  go_wp2_with (first
                    | (refine sR rfl (hM.out.at 3 rfl) rfl ((rwF 0 0).len (rwF 8 (-1))) (rwF 8 (-1)) ?_
                       replace hM := hid (hM.out.put 3 rfl [.int .i64 8, .int .i64 (-1)] ((rwF 0 0).len (rwF 8 (-1))))
                       generalize World.setCells _ _ _ _ = W at hM ⊢))
                  exact bodyPost_ret (res1 Tryd.results11 (hM.out.at 3 rfl) (rwF 8 (-1))) rfl ⟨8, (-1), JRE.out, rfl, hM.out.below⟩
                · obtain ⟨bb, hbb⟩ : ∃ q, bk bs kk = q := ⟨_, rfl⟩
                  have HBB : Hid _ := hbb
                  have HV : Hid (cp bs (opn h cs dt) = .pointer (some ⟨bb, 0, none⟩)) := by rw [hop]; show ptr (bk bs kk) = _; rw [hbb]; rfl
                  obtain ⟨⟨kd2, th2, o2, k2, x2, cc2, y2, wh2, st2⟩, he2⟩ : ∃ e, h a = e := ⟨_, rfl⟩
                  obtain ⟨x0, hx0⟩ : ∃ q, hs kk = q := ⟨_, rfl⟩
                  have HX0 : Hid _ := hx0
                  have CR : Hid (∀ {W : World} {F : List (Nat × List Value)} (J : Jm n0 w W F (.slice va cs.length vcap) bs bs (frow h cs hs)), Bo W bb [.int .i64 kd2, .int .i64 th2, .int .i64 o2, .int .i64 k2, .int .i64 x2, .int .i64 cc2, .int .i64 y2, .int .i64 wh2, .int .i64 st2, .int .i64 (a : Nat), .int .i64 (-1), .int .i64 (x0 : Nat)]) := fun J => J.row HL.out hk hbb hx0 he2
                  have HK : Hid _ := hk
                  have HE2 : Hid _ := he2
                  clear hbb hx0
                  rw [he2, HQ.out] at hor
                  replace hor : (o2, k2, x2) ≠ (dO, dk, dx) ∨ 0 < x0 := by rw [← HX0.out]; exact hor
                  by_cases h2 : (o2, k2, x2) = (dO, dk, dx)
                  · have hx : (0 : Int) < (x0 : Int) := by have := hor.resolve_left (fun e => e h2); omega
                    have EQ := fun w => op_eq o2 k2 x2 dO dk dx true ⟨fun _ => h2, fun _ => rfl⟩ w
                    clear h2 hor hop hk he2
                    go_wp2_with (first
                      | (refine lO rfl RD.out rfl (rwD dt dO dk dx dc dy) ?_; clear RD))
                    clear cby hsub hp0 hp1
                    have hM := hM2
                    clear hM2
                    rw [← HBD.out]
                    generalize World.alloc _ _ = W at hM ⊢
                    clear HBD
                    refine (openOf_is hM.out HL.out (by have := GG.out.len; have := HC.out; omega) (i5 := 2) rfl dt).mono ?_
                    rintro e ux ⟨rfl, hw⟩
                    rw [hw]; clear hw ux
                    rw [HV.out]
                    go_wp2_with fail
                    replace hM := hid (hM.out.drew)
                    refine wp_region_held_drew (S := fun w' => Bo w' bd [.int .i64 dt, .int .i64 dO, .int .i64 dk, .int .i64 dx, .int .i64 dc, .int .i64 dy] ∧ Bo w' bb [.int .i64 kd2, .int .i64 th2, .int .i64 o2, .int .i64 k2, .int .i64 x2, .int .i64 cc2, .int .i64 y2, .int .i64 wh2, .int .i64 st2, .int .i64 (a : Nat), .int .i64 (-1), .int .i64 (x0 : Nat)]) (by kernel_rfl) ⟨hM.out.at 0 rfl, CR.out hM.out⟩ (fun hH => ?_)
                    generalize World.drew _ = W at hM hH  ⊢
                    refine tk 0 rfl hH ?_
                    simp only [Act.put, p1, p2, p3]
                    refine tk 1 rfl hH ?_
                    simp only [Act.put, p1, p2, p3]
                    refine tk 2 rfl hH ?_
                    simp only [Act.put, p1, p2, p3]
                    refine tk 3 rfl hH ?_
                    simp only [Act.put, p1, p2, p3]
                    refine tk 4 rfl hH ?_
                    simp only [Act.put, p1, p2, p3]
                    refine tk 5 rfl hH ?_
                    simp only [Act.put, p1, p2, p3]
                    refine tk 6 rfl hH ?_
                    simp only [Act.put, p1, p2, p3]
                    refine tk 7 rfl hH ?_ (by intro w h; have c0 := h.2.at 2 rfl; have c1 := h.2.at 3 rfl; have c2 := h.2.at 4 rfl; clear h; go_simp; try with_reducible rfl)
                    simp only [Act.put, p1, p2, p3]
                    refine tk 8 rfl hH ?_
                    simp only [Act.put, p1, p2, p3]
                    refine tk 9 rfl hH ?_ (by intro w h; have c0 := h.1.at 1 rfl; have c1 := h.1.at 2 rfl; have c2 := h.1.at 3 rfl; clear h; go_simp; try with_reducible rfl)
                    simp only [Act.put, p1, p2, p3]
                    refine tk 10 rfl hH ?_
                    simp only [Act.put, p1, p2, p3]
                    refine tk 11 rfl hH ?_
                    simp only [Act.put, p1, p2, p3]
                    refine tk 12 rfl hH ?_
                    simp only [Act.put, p1, p2, p3]
                    refine tk 13 rfl hH ?_
                    simp only [Act.put, p1, p2, p3]
                    refine tk 14 rfl hH ?_
                    simp only [Act.put, p1, p2, p3]
                    refine tk 15 rfl hH ?_
                    simp only [Act.put, p1, p2, p3]
                    refine tk 16 rfl hH ?_ (by intro w h; have c0 := h.2.at 11 rfl; clear h; go_simp; try with_reducible rfl)
                    simp only [Act.put, p1, p2, p3]
                    refine tk 17 rfl hH ?_
                    simp only [Act.put, p1, p2, p3]
                    refine tk 18 rfl hH ?_
                    simp only [Act.put, p1, p2, p3]
                    refine wpAnyH_done (by kernel_rfl) ?_ _
                    go_wp2_with fail
                    refine (bare_is 8 _).mono ?_
                    rintro e W ⟨rfl, hb⟩
                    replace hM := hid (hM.out.later hb)
                    clear hb
                    go_wp2_with (first
                      | (refine sR rfl (hM.out.at 3 rfl) rfl ((rwF 0 0).len (rwF 8 (-1))) (rwF 8 (-1)) ?_
                         replace hM := hid (hM.out.put 3 rfl [.int .i64 8, .int .i64 (-1)] ((rwF 0 0).len (rwF 8 (-1))))
                         generalize World.setCells _ _ _ _ = W at hM ⊢))
                    exact bodyPost_ret (res1 Tryd.results11 (hM.out.at 3 rfl) (rwF 8 (-1))) rfl ⟨8, (-1), JRE.out, rfl, hM.out.below⟩
                  · have EQ := fun w => op_eq o2 k2 x2 dO dk dx false ⟨fun h => (by cases h), fun h => absurd h h2⟩ w
                    clear h2 hor hop hk he2
                    go_wp2_with (first
                      | (refine lO rfl RD.out rfl (rwD dt dO dk dx dc dy) ?_; clear RD))
                    clear cby hsub hp0 hp1
                    have hM := hM2
                    clear hM2
                    rw [← HBD.out]
                    generalize World.alloc _ _ = W at hM ⊢
                    clear HBD
                    refine (openOf_is hM.out HL.out (by have := GG.out.len; have := HC.out; omega) (i5 := 2) rfl dt).mono ?_
                    rintro e ux ⟨rfl, hw⟩
                    rw [hw]; clear hw ux
                    rw [HV.out]
                    go_wp2_with fail
                    replace hM := hid (hM.out.drew)
                    refine wp_region_held_drew (S := fun w' => Bo w' bd [.int .i64 dt, .int .i64 dO, .int .i64 dk, .int .i64 dx, .int .i64 dc, .int .i64 dy] ∧ Bo w' bb [.int .i64 kd2, .int .i64 th2, .int .i64 o2, .int .i64 k2, .int .i64 x2, .int .i64 cc2, .int .i64 y2, .int .i64 wh2, .int .i64 st2, .int .i64 (a : Nat), .int .i64 (-1), .int .i64 (x0 : Nat)]) (by kernel_rfl) ⟨hM.out.at 0 rfl, CR.out hM.out⟩ (fun hH => ?_)
                    generalize World.drew _ = W at hM hH  ⊢
                    refine tk 0 rfl hH ?_
                    simp only [Act.put, p1, p2, p3]
                    refine tk 1 rfl hH ?_
                    simp only [Act.put, p1, p2, p3]
                    refine tk 2 rfl hH ?_
                    simp only [Act.put, p1, p2, p3]
                    refine tk 3 rfl hH ?_
                    simp only [Act.put, p1, p2, p3]
                    refine tk 4 rfl hH ?_
                    simp only [Act.put, p1, p2, p3]
                    refine tk 5 rfl hH ?_
                    simp only [Act.put, p1, p2, p3]
                    refine tk 6 rfl hH ?_
                    simp only [Act.put, p1, p2, p3]
                    refine tk 7 rfl hH ?_ (by intro w h; have c0 := h.2.at 2 rfl; have c1 := h.2.at 3 rfl; have c2 := h.2.at 4 rfl; clear h; go_simp; try with_reducible rfl)
                    simp only [Act.put, p1, p2, p3]
                    refine tk 8 rfl hH ?_
                    simp only [Act.put, p1, p2, p3]
                    refine tk 9 rfl hH ?_ (by intro w h; have c0 := h.1.at 1 rfl; have c1 := h.1.at 2 rfl; have c2 := h.1.at 3 rfl; clear h; go_simp; try with_reducible rfl)
                    simp only [Act.put, p1, p2, p3]
                    refine tk 10 rfl hH ?_
                    simp only [Act.put, p1, p2, p3]
                    refine tk 11 rfl hH ?_
                    simp only [Act.put, p1, p2, p3]
                    refine tk 12 rfl hH ?_
                    simp only [Act.put, p1, p2, p3]
                    refine tkN 13 rfl hH ?_
                    simp only [Act.put, p1, p2, p3]
                    refine tkN 14 rfl hH ?_
                    simp only [Act.put, p1, p2, p3]
                    refine tkN 15 rfl hH ?_
                    simp only [Act.put, p1, p2, p3]
                    refine tkN 16 rfl hH ?_
                    simp only [Act.put, p1, p2, p3]
                    refine tkN 17 rfl hH ?_
                    simp only [Act.put, p1, p2, p3]
                    refine tk 18 rfl hH ?_
                    simp only [Act.put, p1, p2, p3]
                    refine wpAnyH_done (by kernel_rfl) ?_ _
                    go_wp2_with fail
                    refine (bare_is 8 _).mono ?_
                    rintro e W ⟨rfl, hb⟩
                    replace hM := hid (hM.out.later hb)
                    clear hb
                    go_wp2_with (first
                      | (refine sR rfl (hM.out.at 3 rfl) rfl ((rwF 0 0).len (rwF 8 (-1))) (rwF 8 (-1)) ?_
                         replace hM := hid (hM.out.put 3 rfl [.int .i64 8, .int .i64 (-1)] ((rwF 0 0).len (rwF 8 (-1))))
                         generalize World.setCells _ _ _ _ = W at hM ⊢))
                    exact bodyPost_ret (res1 Tryd.results11 (hM.out.at 3 rfl) (rwF 8 (-1))) rfl ⟨8, (-1), JRE.out, rfl, hM.out.below⟩
              | ok s2 =>
                obtain ⟨b4, us4⟩ := s2
                have OF2 : Hid (opnF h q cs bl (j + 1) = .ok (b4, us4)) := by rw [opnF_step OF.out]; exact hst
                rcases stepO_some (by rw [OFL.out]; exact hlt) hst with ⟨x1, hb, he⟩ | ⟨kk, a, hb, hopu, hk, heq, he⟩
                · obtain ⟨rfl, rfl⟩ : b3 = b4 ∧ us = us4 := by injection he with h1 h2; exact ⟨h1.symm, h2.symm⟩
                  have HB : Hid _ := hb
                  clear hst hb he
                  have cby := hM.out.cell (u := Value.pointer (some ⟨bk bs x1, 0, none⟩)) 0 u rfl (by rw [HU.out]; exact byp_get HB.out)
                  go_wp2
                  clear cby
                  go_roundg (m - (j + 1))
                  case measure => omega
                  case rel => exact ⟨j + 1, u + 1, b3, us, hs, by omega, by omega, (by have := HC.out; have := HJ.out; have := HU.out; have hw : wrap64 ((u : Int) + 1) = ((u + 1 : Nat) : Int) := (by unfold wrap64; omega); rw [hw]), hid (by rw [HU.out]), OF2, HS, hM⟩
                · have HEQ : Hid (b4 = b3.set j (some kk) ∧ us4 = (q j).t :: us) := hid (by injection he with h1 h2; exact ⟨h1, h2⟩)
                  have HB : Hid _ := hb
                  clear hst hb he
                  have cby := hM.out.cell (u := Value.pointer none) 0 u rfl (by rw [HU.out]; exact byp_get HB.out)
                  have hsub : wrap64 ((u : Int) - 1) = (j : Nat) := by have := HC.out; have := HU.out; unfold wrap64; omega
                  have hp1 : (j : Int) < (m : Int) := by omega
                  have hp0 : (0 : Int) ≤ (j : Int) := by omega
                  obtain ⟨db, doff, rfl, hdc⟩ := HD.out.some (by omega)
                  obtain ⟨⟨dt, dO, dk, dx, dc, dy⟩, hq⟩ : ∃ d, q j = d := ⟨_, rfl⟩
                  have HQ : Hid _ := hq
                  have hdr := HD.out.row W hM.out.below j hlt
                  rw [hq] at hdr
                  have RD : Hid (W.rangeAt db (doff + j * 6) [.int .i64 dt, .int .i64 dO, .int .i64 dk, .int .i64 dx, .int .i64 dc, .int .i64 dy]) := hdr
                  clear hdr hdc hq
                  obtain ⟨bd, hb0⟩ : ∃ q, q = W.heap.size := ⟨_, rfl⟩
                  have HBD : Hid _ := hb0
                  clear hb0
                  have hM2 : Hid _ := hid (hM.out.born [.int .i64 dt, .int .i64 dO, .int .i64 dk, .int .i64 dx, .int .i64 dc, .int .i64 dy] 53 HBD.out)
                  rw [HQ.out] at hopu
                  obtain ⟨hnu, hop⟩ := opu_hit hopu
                  replace hop : opn h cs dt = some kk := hop
                  replace hnu : dt ∉ us := hnu
                  have hth : (h a).th = dt := by
                    obtain ⟨a9, h8, h9⟩ := opn_hit hop
                    rw [hk] at h8
                    injection h8 with h8
                    injection h8 with h8
                    subst h8
                    exact h9
                  obtain ⟨bb, hbb⟩ : ∃ q, bk bs kk = q := ⟨_, rfl⟩
                  have HBB : Hid _ := hbb
                  have HV : Hid (cp bs (opn h cs dt) = .pointer (some ⟨bb, 0, none⟩)) := by rw [hop]; show ptr (bk bs kk) = _; rw [hbb]; rfl
                  obtain ⟨⟨kd2, th2, o2, k2, x2, cc2, y2, wh2, st2⟩, he2⟩ : ∃ e, h a = e := ⟨_, rfl⟩
                  obtain ⟨x0, hx0⟩ : ∃ q, hs kk = q := ⟨_, rfl⟩
                  have HX0 : Hid _ := hx0
                  have CR : Hid (∀ {W : World} {F : List (Nat × List Value)} (J : Jm n0 w W F (.slice va cs.length vcap) bs bs (frow h cs hs)), Bo W bb [.int .i64 kd2, .int .i64 th2, .int .i64 o2, .int .i64 k2, .int .i64 x2, .int .i64 cc2, .int .i64 y2, .int .i64 wh2, .int .i64 st2, .int .i64 (a : Nat), .int .i64 (-1), .int .i64 (x0 : Nat)]) := fun J => J.row HL.out hk hbb hx0 he2
                  have HK : Hid _ := hk
                  have HE2 : Hid _ := he2
                  clear hbb hx0
                  have hx0 : x0 = 0 := by
                    have h5 := HS.out kk a hk
                    rw [HX0.out, hth] at h5
                    have : ¬ 0 < x0 := fun e => hnu (h5.1 e)
                    omega
                  rw [he2, HQ.out] at heq
                  replace heq : (o2, k2, x2) = (dO, dk, dx) := heq
                  have hx : ¬ (0 : Int) < (x0 : Int) := by omega
                  have EQ := fun w => op_eq o2 k2 x2 dO dk dx true ⟨fun _ => heq, fun _ => rfl⟩ w
                  have HS4 : Hid (∀ l b, cs[l]? = some (b, none) → (0 < (if l = kk then u else hs l) ↔ (h b).th ∈ us4)) := hid fun l b hl => by
                    rw [HEQ.out.2, HQ.out]
                    by_cases e : l = kk
                    · rw [e, hk] at hl
                      injection hl with hl
                      injection hl with hl
                      subst hl
                      rw [if_pos e]
                      exact ⟨fun _ => by rw [hth]; exact List.mem_cons_self, fun _ => by have := HU.out; omega⟩
                    · rw [if_neg e, HS.out l b hl, List.mem_cons]
                      refine ⟨Or.inr, fun h5 => h5.resolve_left fun h6 => e ?_⟩
                      exact GG.out.un l kk _ _ hl hk rfl rfl (h6.trans hth.symm)
                  have HKL : Hid (kk < bs.length) := by have := (List.getElem?_eq_some_iff.1 hk).1; have := HL.out; exact (by omega : kk < bs.length)
                  clear heq hop hk he2 hopu hnu hth hx0
                  go_wp2_with (first
                    | (refine lO rfl RD.out rfl (rwD dt dO dk dx dc dy) ?_; clear RD))
                  clear cby hsub hp0 hp1
                  have hM := hM2
                  clear hM2
                  rw [← HBD.out]
                  generalize World.alloc _ _ = W at hM ⊢
                  clear HBD
                  refine (openOf_is hM.out HL.out (by have := GG.out.len; have := HC.out; omega) (i5 := 2) rfl dt).mono ?_
                  rintro e ux ⟨rfl, hw⟩
                  rw [hw]; clear hw ux
                  rw [HV.out]
                  go_wp2_with fail
                  replace hM := hid (hM.out.drew)
                  refine wp_region_held_drew (S := fun w' => Bo w' bd [.int .i64 dt, .int .i64 dO, .int .i64 dk, .int .i64 dx, .int .i64 dc, .int .i64 dy] ∧ Bo w' bb [.int .i64 kd2, .int .i64 th2, .int .i64 o2, .int .i64 k2, .int .i64 x2, .int .i64 cc2, .int .i64 y2, .int .i64 wh2, .int .i64 st2, .int .i64 (a : Nat), .int .i64 (-1), .int .i64 (x0 : Nat)]) (by kernel_rfl) ⟨hM.out.at 0 rfl, CR.out hM.out⟩ (fun hH => ?_)
                  generalize World.drew _ = W at hM hH  ⊢
                  refine tk 0 rfl hH ?_
                  simp only [Act.put, p1, p2, p3]
                  refine tk 1 rfl hH ?_
                  simp only [Act.put, p1, p2, p3]
                  refine tk 2 rfl hH ?_
                  simp only [Act.put, p1, p2, p3]
                  refine tk 3 rfl hH ?_
                  simp only [Act.put, p1, p2, p3]
                  refine tk 4 rfl hH ?_
                  simp only [Act.put, p1, p2, p3]
                  refine tk 5 rfl hH ?_
                  simp only [Act.put, p1, p2, p3]
                  refine tk 6 rfl hH ?_
                  simp only [Act.put, p1, p2, p3]
                  refine tk 7 rfl hH ?_ (by intro w h; have c0 := h.2.at 2 rfl; have c1 := h.2.at 3 rfl; have c2 := h.2.at 4 rfl; clear h; go_simp; try with_reducible rfl)
                  simp only [Act.put, p1, p2, p3]
                  refine tk 8 rfl hH ?_
                  simp only [Act.put, p1, p2, p3]
                  refine tk 9 rfl hH ?_ (by intro w h; have c0 := h.1.at 1 rfl; have c1 := h.1.at 2 rfl; have c2 := h.1.at 3 rfl; clear h; go_simp; try with_reducible rfl)
                  simp only [Act.put, p1, p2, p3]
                  refine tk 10 rfl hH ?_
                  simp only [Act.put, p1, p2, p3]
                  refine tk 11 rfl hH ?_
                  simp only [Act.put, p1, p2, p3]
                  refine tk 12 rfl hH ?_
                  simp only [Act.put, p1, p2, p3]
                  refine tk 13 rfl hH ?_
                  simp only [Act.put, p1, p2, p3]
                  refine tk 14 rfl hH ?_
                  simp only [Act.put, p1, p2, p3]
                  refine tk 15 rfl hH ?_
                  simp only [Act.put, p1, p2, p3]
                  refine tk 16 rfl hH ?_ (by intro w h; have c0 := h.2.at 11 rfl; clear h; go_simp; try with_reducible rfl)
                  simp only [Act.put, p1, p2, p3]
                  refine tk 17 rfl hH ?_
                  simp only [Act.put, p1, p2, p3]
                  refine tk 18 rfl hH ?_
                  simp only [Act.put, p1, p2, p3]
                  refine wpAnyH_done (by kernel_rfl) ?_ _
                  have cb := hM.out.cell (u := Value.pointer none) 1 u rfl (by rw [HU.out]; exact byp_get HB.out)
                  have fb := hM.out.froz 1 u rfl
                  have hM3 : Hid _ := hid (hM.out.put1 1 u rfl (.pointer (some ⟨bb, 0, none⟩)) (byp bs b4) (by rw [byp_length, OFL.out, HU.out]; exact Nat.succ_lt_succ HJ.out) (by rw [HU.out, HEQ.out.1, ← HBB.out]; exact byp_set bs b3 j kk))
                  have cx := (CR.out hM3.out).at 11 rfl
                  have fx := (CR.out hM3.out).froz 11
                  go_wp2
                  clear cb fb cx fx hx EQ hu0 hu1 hum
                  have hM4 : Hid (Jm n0 w ((W.setCell ⟨bz, u, none⟩ (.pointer (some ⟨bb, 0, none⟩))).setCell ⟨bb, 11, none⟩ (.int .i64 (u : Nat))) [(bz, byp bs b4), ((n0 + 1), [(.slice va cs.length vcap)]), (n0, [.int .i64 0, .int .i64 0])] (.slice va cs.length vcap) bs bs (frow h cs (fun j => if j = kk then u else hs j))) := by
                    have h5 := hM3.out.putC HKL.out 11 (.int .i64 (u : Nat)) (crow h (cg cs kk) u) (by show 11 < 12; omega) (by unfold frow; rfl)
                    rw [HBB.out] at h5
                    exact hid (h5.tail.congr fun j hj => by
                      show (if j = kk then crow h (cg cs kk) u else crow h (cg cs j) (hs j)) = crow h (cg cs j) (if j = kk then u else hs j)
                      by_cases e : j = kk
                      · rw [if_pos e, if_pos e, e]
                      · rw [if_neg e, if_neg e])
                  go_roundg (m - (j + 1))
                  case measure => omega
                  case rel => exact ⟨j + 1, u + 1, b4, us4, _, by omega, by omega, (by have := HC.out; have := HJ.out; have := HU.out; have hw : wrap64 ((u : Int) + 1) = ((u + 1 : Nat) : Int) := (by unfold wrap64; omega); rw [hw]), hid (by rw [HU.out]), OF2, HS4, hM4⟩
            · have hjm : m = j := by omega
              subst hjm
              have hum : ¬ (u : Int) ≤ (m : Int) := by have := HU.out; omega
              go_wp2_with fail
              clear hum HU
              have AL : Hid (AllLt cs b3) := hid (opnF_lt (ansF_lt (Nat.le_refl _) AF.out) (Nat.le_of_eq (ansF_len AF.out).symm) OF.out)
              have AS : Hid (∀ k, k < m → ∃ x, b3[k]? = some (some x)) := hid (opnF_all (Nat.le_of_eq (ansF_len AF.out).symm) OF.out)
              have H30 : Hid (∀ k, (cg cs k).1 ≤ 1000000) := hid fun k => by
                by_cases e : k < cs.length
                · rw [cg_of (List.getElem?_eq_getElem e)]
                  have := (GG.out.lt _ (List.getElem_mem e)).1
                  have := HC.out
                  omega
                · unfold cg; rw [List.getD_eq_getElem?_getD, List.getElem?_eq_none (by omega)]; exact Nat.zero_le _
              go_loopg [18] m (fun gg s18 wt => ∃ (j u : Nat), j ≤ m ∧ m - j ≤ gg ∧ s18 = .int .i64 (u : Nat) ∧ Hid (u = j + 1) ∧ Hid (∀ x y, x < j → x < y → y < m → ¬ Late cs b3 x y) ∧ Hid (Jm n0 w wt [(bz, byp bs b3), ((n0 + 1), [(.slice va cs.length vcap)]), (n0, [.int .i64 0, .int .i64 0])] (.slice va cs.length vcap) bs bs (frow h cs hs)))
              case atStart => exact ⟨0, 1, by omega, by omega, rfl, hid rfl, hid (fun x y hx => absurd hx (Nat.not_lt_zero _)), hM⟩
              case round =>
                clear hM
                obtain ⟨j, v, hj, hgg, rfl, HU, NL, hM⟩ := hrel
                obtain ⟨W, rfl⟩ : ∃ q, q = wr := ⟨_, rfl⟩
                by_cases hlt : j < m
                · have hvm : (v : Int) ≤ (m : Int) := by have := HU.out; omega
                  obtain ⟨t0, ht0⟩ : ∃ q, q = v + 1 := ⟨_, rfl⟩
                  have HT0 : Hid _ := ht0
                  have HW : Hid (wrap64 ((v : Int) + 1) = (t0 : Nat)) := by have := HC.out; have := HU.out; unfold Hid wrap64; omega
                  clear ht0
                  go_wp2_with fail
                  clear hvm
                  go_loopg [19] m (fun gg s19 wt => ∃ (k t : Nat), j < k ∧ k ≤ m ∧ m - k ≤ gg ∧ s19 = .int .i64 (t : Nat) ∧ Hid (t = k + 1) ∧ Hid (∀ y, j < y → y < k → ¬ Late cs b3 j y) ∧ Hid (Jm n0 w wt [(bz, byp bs b3), ((n0 + 1), [(.slice va cs.length vcap)]), (n0, [.int .i64 0, .int .i64 0])] (.slice va cs.length vcap) bs bs (frow h cs hs)))
                  case atStart => exact ⟨j + 1, t0, by omega, by omega, by omega, (by rw [HW.out]), hid (by rw [HT0.out, HU.out]), hid (fun y h1 h2 => absurd h1 (by omega)), hM⟩
                  case round =>
                    clear hM
                    obtain ⟨k, t, hjk, hk, hgg2, rfl, HT, NI, hM⟩ := hrel
                    obtain ⟨W, rfl⟩ : ∃ q, q = wr := ⟨_, rfl⟩
                    by_cases hlk : k < m
                    · have htm : (t : Int) ≤ (m : Int) := by have := HT.out; omega
                      have ht1 : (t : Int) < (m1 : Int) := by have := HM1.out; have := HT.out; omega
                      have htz : (0 : Int) ≤ (t : Int) := by omega
                      have hv1 : (v : Int) < (m1 : Int) := by have := HM1.out; have := HU.out; omega
                      have hvz : (0 : Int) ≤ (v : Int) := by omega
                      obtain ⟨x, hx⟩ := AS.out k hlk
                      obtain ⟨x2, hx2⟩ := AS.out j hlt
                      obtain ⟨⟨a, z⟩, hkx⟩ : ∃ c, cs[x]? = some c := ⟨cs[x]'(AL.out k x hx), List.getElem?_eq_getElem (AL.out k x hx)⟩
                      obtain ⟨⟨a2, z2⟩, hkx2⟩ : ∃ c, cs[x2]? = some c := ⟨cs[x2]'(AL.out j x2 hx2), List.getElem?_eq_getElem (AL.out j x2 hx2)⟩
                      have LT : Hid (Late cs b3 j k ↔ ∃ y, z = some y ∧ y < a2) := by
                        unfold Late
                        rw [uof_of hx, uof_of hx2, cg_of hkx, cg_of hkx2]
                        exact Iff.rfl
                      obtain ⟨bx, hbx⟩ : ∃ q, bk bs x = q := ⟨_, rfl⟩
                      obtain ⟨bj, hbj⟩ : ∃ q, bk bs x2 = q := ⟨_, rfl⟩
                      have BT : Hid ((byp bs b3)[t]? = some (.pointer (some ⟨bx, 0, none⟩))) := by rw [HT.out, ← hbx]; exact byp_get hx
                      have BU : Hid ((byp bs b3)[v]? = some (.pointer (some ⟨bj, 0, none⟩))) := by rw [HU.out, ← hbj]; exact byp_get hx2
                      have CJ : Hid (∀ {W : World} {F : List (Nat × List Value)} (J : Jm n0 w W F (.slice va cs.length vcap) bs bs (frow h cs hs)), Bo W bj (cr (h a2) a2 (tv z2) (hs x2))) := fun J => J.row HL.out hkx2 hbj rfl rfl
                      cases z with
                      | none =>
                        · have CX : Hid (∀ {W : World} {F : List (Nat × List Value)} (J : Jm n0 w W F (.slice va cs.length vcap) bs bs (frow h cs hs)), Bo W bx (cr (h a) a (-1) (hs x))) := fun J => J.row HL.out hkx hbx rfl rfl
                          have NO : Hid (¬ ∃ y, (none : Option Nat) = some y ∧ y < a2) := hid (by rintro ⟨y, h1, _⟩; cases h1)
                          clear hx hx2 hkx hkx2 hbx hbj
                          go_wp2_with fail
                          replace hM := hid (hM.out.drew)
                          refine wp_region_held_drew (S := fun w' => Bo w' bz (byp bs b3) ∧ Bo w' bx (cr (h a) a (-1) (hs x))) (by kernel_rfl) ⟨hM.out.at 0 rfl, CX.out hM.out⟩ (fun hH => ?_)
                          generalize World.drew _ = W at hM hH  ⊢
                          refine tk 0 rfl hH ?_
                          simp only [Act.put, p1, p2, p3]
                          refine tk 1 rfl hH ?_
                          simp only [Act.put, p1, p2, p3]
                          refine tk 2 rfl hH ?_
                          simp only [Act.put, p1, p2, p3]
                          refine tk 3 rfl hH ?_ (by intro w h; have c0 := h.1.cell t _ BT.out; clear h; go_simp; try with_reducible rfl)
                          simp only [Act.put, p1, p2, p3]
                          refine tk 4 rfl hH ?_
                          simp only [Act.put, p1, p2, p3]
                          refine tk 5 rfl hH ?_
                          simp only [Act.put, p1, p2, p3]
                          refine tk 6 rfl hH ?_ (by intro w h; have c0 := h.2.at 10 rfl; clear h; go_simp; try with_reducible rfl)
                          simp only [Act.put, p1, p2, p3]
                          refine tk 7 rfl hH ?_
                          simp only [Act.put, p1, p2, p3]
                          refine tk 8 rfl hH ?_
                          simp only [Act.put, p1, p2, p3]
                          refine tkN 9 rfl hH ?_
                          simp only [Act.put, p1, p2, p3]
                          refine tkN 10 rfl hH ?_
                          simp only [Act.put, p1, p2, p3]
                          refine tkN 11 rfl hH ?_
                          simp only [Act.put, p1, p2, p3]
                          refine tkN 12 rfl hH ?_
                          simp only [Act.put, p1, p2, p3]
                          refine tkN 13 rfl hH ?_
                          simp only [Act.put, p1, p2, p3]
                          refine tkN 14 rfl hH ?_
                          simp only [Act.put, p1, p2, p3]
                          refine tkN 15 rfl hH ?_
                          simp only [Act.put, p1, p2, p3]
                          refine tkN 16 rfl hH ?_
                          simp only [Act.put, p1, p2, p3]
                          refine tkN 17 rfl hH ?_
                          simp only [Act.put, p1, p2, p3]
                          refine tkN 18 rfl hH ?_
                          simp only [Act.put, p1, p2, p3]
                          refine tkN 19 rfl hH ?_
                          simp only [Act.put, p1, p2, p3]
                          refine tkN 20 rfl hH ?_
                          simp only [Act.put, p1, p2, p3]
                          refine tkN 21 rfl hH ?_
                          simp only [Act.put, p1, p2, p3]
                          refine tkN 22 rfl hH ?_
                          simp only [Act.put, p1, p2, p3]
                          refine tkN 23 rfl hH ?_
                          simp only [Act.put, p1, p2, p3]
                          refine tk 24 rfl hH ?_
                          simp only [Act.put, p1, p2, p3]
                          refine wpAnyH_done (by kernel_rfl) ?_ _
                          have NI2 : Hid (∀ y, j < y → y < k + 1 → ¬ Late cs b3 j y) := hid fun y h1 h2 => by
                            by_cases e : y = k
                            · rw [e, LT.out]; exact NO.out
                            · exact NI.out y h1 (by omega)
                          go_wp2
                          go_roundg (m - (k + 1))
                          case measure => omega
                          case rel => exact ⟨k + 1, t + 1, by omega, by omega, by omega, (by have := HC.out; have := HT.out; have hw : wrap64 ((t : Int) + 1) = ((t + 1 : Nat) : Int) := (by unfold wrap64; omega); rw [hw]), hid (by rw [HT.out]), NI2, hM⟩
                      | some z =>
                        have CX : Hid (∀ {W : World} {F : List (Nat × List Value)} (J : Jm n0 w W F (.slice va cs.length vcap) bs bs (frow h cs hs)), Bo W bx (cr (h a) a ((z : Nat) : Int) (hs x))) := fun J => J.row HL.out hkx hbx rfl rfl
                        clear hx hx2 hkx hkx2 hbx hbj
                        have hz : (0 : Int) ≤ (z : Int) := by omega
                        by_cases hl : z < a2
                        · have JRE : Hid (JR h q n m 6 (-1)) := hid (JR.late CF.out AF.out OF.out ((ordB_bad H30.out).2 ⟨j, k, hjk, hlk, LT.out.2 ⟨z, rfl, hl⟩⟩))
                          have hlz : (z : Int) < (a2 : Int) := by omega
                          clear hl
                          go_wp2_with fail
                          replace hM := hid (hM.out.drew)
                          refine wp_region_held_drew (S := fun w' => Bo w' bz (byp bs b3) ∧ Bo w' bx (cr (h a) a ((z : Nat) : Int) (hs x)) ∧ Bo w' bj (cr (h a2) a2 (tv z2) (hs x2))) (by kernel_rfl) ⟨hM.out.at 0 rfl, CX.out hM.out, CJ.out hM.out⟩ (fun hH => ?_)
                          generalize World.drew _ = W at hM hH  ⊢
                          refine tk 0 rfl hH ?_
                          simp only [Act.put, p1, p2, p3]
                          refine tk 1 rfl hH ?_
                          simp only [Act.put, p1, p2, p3]
                          refine tk 2 rfl hH ?_
                          simp only [Act.put, p1, p2, p3]
                          refine tk 3 rfl hH ?_ (by intro w h; have c0 := h.1.cell t _ BT.out; clear h; go_simp; try with_reducible rfl)
                          simp only [Act.put, p1, p2, p3]
                          refine tk 4 rfl hH ?_
                          simp only [Act.put, p1, p2, p3]
                          refine tk 5 rfl hH ?_
                          simp only [Act.put, p1, p2, p3]
                          refine tk 6 rfl hH ?_ (by intro w h; have c0 := h.2.1.at 10 rfl; clear h; go_simp; try with_reducible rfl)
                          simp only [Act.put, p1, p2, p3]
                          refine tk 7 rfl hH ?_
                          simp only [Act.put, p1, p2, p3]
                          refine tk 8 rfl hH ?_
                          simp only [Act.put, p1, p2, p3]
                          refine tk 9 rfl hH ?_
                          simp only [Act.put, p1, p2, p3]
                          refine tk 10 rfl hH ?_
                          simp only [Act.put, p1, p2, p3]
                          refine tk 11 rfl hH ?_
                          simp only [Act.put, p1, p2, p3]
                          refine tk 12 rfl hH ?_ (by intro w h; have c0 := h.1.cell t _ BT.out; clear h; go_simp; try with_reducible rfl)
                          simp only [Act.put, p1, p2, p3]
                          refine tk 13 rfl hH ?_
                          simp only [Act.put, p1, p2, p3]
                          refine tk 14 rfl hH ?_
                          simp only [Act.put, p1, p2, p3]
                          refine tk 15 rfl hH ?_ (by intro w h; have c0 := h.2.1.at 10 rfl; clear h; go_simp; try with_reducible rfl)
                          simp only [Act.put, p1, p2, p3]
                          refine tk 16 rfl hH ?_
                          simp only [Act.put, p1, p2, p3]
                          refine tk 17 rfl hH ?_
                          simp only [Act.put, p1, p2, p3]
                          refine tk 18 rfl hH ?_
                          simp only [Act.put, p1, p2, p3]
                          refine tk 19 rfl hH ?_ (by intro w h; have c0 := h.1.cell v _ BU.out; clear h; go_simp; try with_reducible rfl)
                          simp only [Act.put, p1, p2, p3]
                          refine tk 20 rfl hH ?_
                          simp only [Act.put, p1, p2, p3]
                          refine tk 21 rfl hH ?_
                          simp only [Act.put, p1, p2, p3]
                          refine tk 22 rfl hH ?_ (by intro w h; have c0 := h.2.2.at 9 rfl; clear h; go_simp; try with_reducible rfl)
                          simp only [Act.put, p1, p2, p3]
                          refine tk 23 rfl hH ?_
                          simp only [Act.put, p1, p2, p3]
                          refine tk 24 rfl hH ?_
                          simp only [Act.put, p1, p2, p3]
                          refine wpAnyH_done (by kernel_rfl) ?_ _
                          go_wp2_with fail
                          refine (bare_is 6 _).mono ?_
                          rintro e W ⟨rfl, hb⟩
                          replace hM := hid (hM.out.later hb)
                          clear hb
                          go_wp2_with (first
                            | (refine sR rfl (hM.out.at 2 rfl) rfl ((rwF 0 0).len (rwF 6 (-1))) (rwF 6 (-1)) ?_
                               replace hM := hid (hM.out.put 2 rfl [.int .i64 6, .int .i64 (-1)] ((rwF 0 0).len (rwF 6 (-1))))
                               generalize World.setCells _ _ _ _ = W at hM ⊢))
                          exact bodyPost_ret (res1 Tryd.results11 (hM.out.at 2 rfl) (rwF 6 (-1))) rfl ⟨6, (-1), JRE.out, rfl, hM.out.below⟩
                        · have NO : Hid (¬ ∃ y, some z = some y ∧ y < a2) := hid (by rintro ⟨y, h1, h2⟩; injection h1 with h1; omega)
                          have hlz : ¬ (z : Int) < (a2 : Int) := by omega
                          clear hl
                          go_wp2_with fail
                          replace hM := hid (hM.out.drew)
                          refine wp_region_held_drew (S := fun w' => Bo w' bz (byp bs b3) ∧ Bo w' bx (cr (h a) a ((z : Nat) : Int) (hs x)) ∧ Bo w' bj (cr (h a2) a2 (tv z2) (hs x2))) (by kernel_rfl) ⟨hM.out.at 0 rfl, CX.out hM.out, CJ.out hM.out⟩ (fun hH => ?_)
                          generalize World.drew _ = W at hM hH  ⊢
                          refine tk 0 rfl hH ?_
                          simp only [Act.put, p1, p2, p3]
                          refine tk 1 rfl hH ?_
                          simp only [Act.put, p1, p2, p3]
                          refine tk 2 rfl hH ?_
                          simp only [Act.put, p1, p2, p3]
                          refine tk 3 rfl hH ?_ (by intro w h; have c0 := h.1.cell t _ BT.out; clear h; go_simp; try with_reducible rfl)
                          simp only [Act.put, p1, p2, p3]
                          refine tk 4 rfl hH ?_
                          simp only [Act.put, p1, p2, p3]
                          refine tk 5 rfl hH ?_
                          simp only [Act.put, p1, p2, p3]
                          refine tk 6 rfl hH ?_ (by intro w h; have c0 := h.2.1.at 10 rfl; clear h; go_simp; try with_reducible rfl)
                          simp only [Act.put, p1, p2, p3]
                          refine tk 7 rfl hH ?_
                          simp only [Act.put, p1, p2, p3]
                          refine tk 8 rfl hH ?_
                          simp only [Act.put, p1, p2, p3]
                          refine tk 9 rfl hH ?_
                          simp only [Act.put, p1, p2, p3]
                          refine tk 10 rfl hH ?_
                          simp only [Act.put, p1, p2, p3]
                          refine tk 11 rfl hH ?_
                          simp only [Act.put, p1, p2, p3]
                          refine tk 12 rfl hH ?_ (by intro w h; have c0 := h.1.cell t _ BT.out; clear h; go_simp; try with_reducible rfl)
                          simp only [Act.put, p1, p2, p3]
                          refine tk 13 rfl hH ?_
                          simp only [Act.put, p1, p2, p3]
                          refine tk 14 rfl hH ?_
                          simp only [Act.put, p1, p2, p3]
                          refine tk 15 rfl hH ?_ (by intro w h; have c0 := h.2.1.at 10 rfl; clear h; go_simp; try with_reducible rfl)
                          simp only [Act.put, p1, p2, p3]
                          refine tk 16 rfl hH ?_
                          simp only [Act.put, p1, p2, p3]
                          refine tk 17 rfl hH ?_
                          simp only [Act.put, p1, p2, p3]
                          refine tk 18 rfl hH ?_
                          simp only [Act.put, p1, p2, p3]
                          refine tk 19 rfl hH ?_ (by intro w h; have c0 := h.1.cell v _ BU.out; clear h; go_simp; try with_reducible rfl)
                          simp only [Act.put, p1, p2, p3]
                          refine tk 20 rfl hH ?_
                          simp only [Act.put, p1, p2, p3]
                          refine tk 21 rfl hH ?_
                          simp only [Act.put, p1, p2, p3]
                          refine tk 22 rfl hH ?_ (by intro w h; have c0 := h.2.2.at 9 rfl; clear h; go_simp; try with_reducible rfl)
                          simp only [Act.put, p1, p2, p3]
                          refine tk 23 rfl hH ?_
                          simp only [Act.put, p1, p2, p3]
                          refine tk 24 rfl hH ?_
                          simp only [Act.put, p1, p2, p3]
                          refine wpAnyH_done (by kernel_rfl) ?_ _
                          have NI2 : Hid (∀ y, j < y → y < k + 1 → ¬ Late cs b3 j y) := hid fun y h1 h2 => by
                            by_cases e : y = k
                            · rw [e, LT.out]; exact NO.out
                            · exact NI.out y h1 (by omega)
                          go_wp2
                          go_roundg (m - (k + 1))
                          case measure => omega
                          case rel => exact ⟨k + 1, t + 1, by omega, by omega, by omega, (by have := HC.out; have := HT.out; have hw : wrap64 ((t : Int) + 1) = ((t + 1 : Nat) : Int) := (by unfold wrap64; omega); rw [hw]), hid (by rw [HT.out]), NI2, hM⟩
                    · have hkm : m = k := by omega
                      subst hkm
                      have htm : ¬ (t : Int) ≤ (m : Int) := by have := HT.out; omega
                      go_wp2
                      go_roundg (m - (j + 1))
                      case measure => omega
                      case rel => exact ⟨j + 1, v + 1, by omega, by omega, (by have := HC.out; have := HU.out; have hw : wrap64 ((v : Int) + 1) = ((v + 1 : Nat) : Int) := (by unfold wrap64; omega); rw [hw]), hid (by rw [HU.out]), hid (fun x y h1 h2 h3 => by
                        by_cases e : x = j
                        · rw [e] at h2 ⊢; exact NI.out y h2 h3
                        · exact NL.out x y (by omega) h2 h3), hM⟩
                · have hjm : m = j := by omega
                  subst hjm
                  have hvm : ¬ (v : Int) ≤ (m : Int) := by have := HU.out; omega
                  have OB : Hid (ordB cs b3 m = true) := by
                    cases e : ordB cs b3 m with
                    | true => exact hid rfl
                    | false =>
                      obtain ⟨x, y, h1, h2, h3⟩ := (ordB_bad H30.out).1 e
                      exact absurd h3 (NL.out x y (by omega) h1 h2)
                  go_wp2_with fail
                  refine (good_is _).mono ?_
                  rintro e W ⟨rfl, hb⟩
                  replace hM := hid (hM.out.later hb)
                  clear hb
                  go_wp2_with (first
                    | (refine sR rfl (hM.out.at 2 rfl) rfl ((rwF 0 0).len (rwF 0 (-1))) (rwF 0 (-1)) ?_
                       replace hM := hid (hM.out.put 2 rfl [.int .i64 0, .int .i64 (-1)] ((rwF 0 0).len (rwF 0 (-1))))
                       generalize World.setCells _ _ _ _ = W at hM ⊢))
                  exact bodyPost_ret (res1 Tryd.results11 (hM.out.at 2 rfl) (rwF 0 (-1))) rfl ⟨0, (-1), JR.good CF.out AF.out OF.out OB.out, rfl, hM.out.below⟩
end Go.Proofs.YtaipanjigindbaaDoor.Tab
namespace Go.Proofs.YtaipanjigindbaaDoor.Tab
set_option maxRecDepth 20000
open Go.RowKit
set_option linter.unusedVariables false

theorem cells_desc : Tryd.prog.underlying 31 = some (.array 17 29) := by kernel_rfl
theorem wpart0 (c : Nat → Nat) (w : World) : (part 29 (wl c).toArray 0).run Tryd.prog w = .ok (.int .u64 (c 0 : Nat)) w := by kernel_rfl
theorem wpart1 (c : Nat → Nat) (w : World) : (part 29 (wl c).toArray 1).run Tryd.prog w = .ok (.int .u64 (c 1 : Nat)) w := by kernel_rfl
theorem wpart2 (c : Nat → Nat) (w : World) : (part 29 (wl c).toArray 2).run Tryd.prog w = .ok (.int .u64 (c 2 : Nat)) w := by kernel_rfl
theorem wpart3 (c : Nat → Nat) (w : World) : (part 29 (wl c).toArray 3).run Tryd.prog w = .ok (.int .u64 (c 3 : Nat)) w := by kernel_rfl
theorem wpart4 (c : Nat → Nat) (w : World) : (part 29 (wl c).toArray 4).run Tryd.prog w = .ok (.int .u64 (c 4 : Nat)) w := by kernel_rfl
theorem wpart5 (c : Nat → Nat) (w : World) : (part 29 (wl c).toArray 5).run Tryd.prog w = .ok (.int .u64 (c 5 : Nat)) w := by kernel_rfl
theorem wpart6 (c : Nat → Nat) (w : World) : (part 29 (wl c).toArray 6).run Tryd.prog w = .ok (.int .u64 (c 6 : Nat)) w := by kernel_rfl
theorem wpart7 (c : Nat → Nat) (w : World) : (part 29 (wl c).toArray 7).run Tryd.prog w = .ok (.int .u64 (c 7 : Nat)) w := by kernel_rfl
theorem wpart8 (c : Nat → Nat) (w : World) : (part 29 (wl c).toArray 8).run Tryd.prog w = .ok (.int .u64 (c 8 : Nat)) w := by kernel_rfl
theorem wpart9 (c : Nat → Nat) (w : World) : (part 29 (wl c).toArray 9).run Tryd.prog w = .ok (.int .u64 (c 9 : Nat)) w := by kernel_rfl
theorem wpart10 (c : Nat → Nat) (w : World) : (part 29 (wl c).toArray 10).run Tryd.prog w = .ok (.int .u64 (c 10 : Nat)) w := by kernel_rfl
theorem wpart11 (c : Nat → Nat) (w : World) : (part 29 (wl c).toArray 11).run Tryd.prog w = .ok (.int .u64 (c 11 : Nat)) w := by kernel_rfl
theorem wpart12 (c : Nat → Nat) (w : World) : (part 29 (wl c).toArray 12).run Tryd.prog w = .ok (.int .u64 (c 12 : Nat)) w := by kernel_rfl
theorem wpart13 (c : Nat → Nat) (w : World) : (part 29 (wl c).toArray 13).run Tryd.prog w = .ok (.int .u64 (c 13 : Nat)) w := by kernel_rfl
theorem wpart14 (c : Nat → Nat) (w : World) : (part 29 (wl c).toArray 14).run Tryd.prog w = .ok (.int .u64 (c 14 : Nat)) w := by kernel_rfl
theorem wpart15 (c : Nat → Nat) (w : World) : (part 29 (wl c).toArray 15).run Tryd.prog w = .ok (.int .u64 (c 15 : Nat)) w := by kernel_rfl
theorem wpart16 (c : Nat → Nat) (w : World) : (part 29 (wl c).toArray 16).run Tryd.prog w = .ok (.int .u64 (c 16 : Nat)) w := by kernel_rfl
theorem word_equal (x : Int) (w : World) : (Op.equalIn 9999 29 (.int .u64 x) (.int .u64 x)).run Tryd.prog w = .ok true w := by
  go_simp
theorem cells_equal (c : Nat → Nat) (w : World) : (Op.equalIn 10000 31 (.agg (wl c).toArray) (.agg (wl c).toArray)).run Tryd.prog w = .ok true w := by
  have hc : Tryd.prog.cellsOf 29 = 1 := by kernel_rfl
  cases hi : Tryd.prog.info? 29 with
  | none => simp [Program.cellsOf, hi] at hc
  | some i =>
    have h := run_equalIn_array (w := w) 9999 (wl c).toArray (wl c).toArray cells_desc hi
    rw [h, hc]
    have hr : List.range 17 = [0, 1, 2, 3, 4, 5, 6, 7, 8, 9, 10, 11, 12, 13, 14, 15, 16] := by decide
    rw [hr]
    simp [Op.eqItems, wpart0 c w, wpart1 c w, wpart2 c w, wpart3 c w, wpart4 c w, wpart5 c w, wpart6 c w, wpart7 c w, wpart8 c w, wpart9 c w, wpart10 c w, wpart11 c w, wpart12 c w, wpart13 c w, wpart14 c w, wpart15 c w, wpart16 c w, word_equal]
theorem cells_zero (w : World) : (Op.equalIn 10000 31 (.agg (wl wz).toArray) (.agg #[.int .u64 0, .int .u64 0, .int .u64 0, .int .u64 0, .int .u64 0, .int .u64 0, .int .u64 0, .int .u64 0, .int .u64 0, .int .u64 0, .int .u64 0, .int .u64 0, .int .u64 0, .int .u64 0, .int .u64 0, .int .u64 0, .int .u64 0])).run Tryd.prog w = .ok true w := cells_equal wz w
theorem afield0 (c y : Int) (w : World) : (Instr.field 49 (.agg #[.int .i64 c, .int .i64 y]) 0).run Tryd.prog w = .ok (.int .i64 c) w := by kernel_rfl
theorem afield1 (c y : Int) (w : World) : (Instr.field 49 (.agg #[.int .i64 c, .int .i64 y]) 1).run Tryd.prog w = .ok (.int .i64 y) w := by kernel_rfl
end Go.Proofs.YtaipanjigindbaaDoor.Tab
namespace Go.Proofs.YtaipanjigindbaaDoor
set_option maxRecDepth 20000
open Go.ChangeShapes Go.WideShapes Go.ChangeAt Go.RowKit

theorem own : ownKnob Tryd.prog.godebug = none := by kernel_rfl
theorem gHandle : Tryd.prog.globalNamed "errors.errorType" = some 0 := by kernel_rfl
theorem rtHandle : (Tryd.prog.cutTypes.find? (·.1 == "internal/reflectlite.rtype")).map (·.2) = some 159 := by kernel_rfl
theorem oneRow : ((List.range 210).filter fun t => Tryd.prog.rowNamed t [101, 114, 114, 111, 114]) = [33] := by kernel_rfl
theorem typesSize : Tryd.prog.types.size = 210 := by kernel_rfl

abbrev laidHandle {H : Type} : List (String × DataW H) := [("errors.errorType", Rows.laid_errors_errorType)]

theorem door_handle (os : Os) (args : Array Value) : laidMetH Tryd.prog laidHandle ((World.doorLaid Tryd.prog 400 os).forCall (fun _ _ => 0) ⟨#[], args, []⟩).memory :=
  laidMetH_of_parts (laidMet_nil _ _) (by kernel_rfl)

theorem handle_of_laid {W : World} (h : laidMetH Tryd.prog laidHandle W) : HandleAt W := by
  have h' : laidMet Tryd.prog [] W ∧ handlesMet Tryd.prog laidHandle W := h
  obtain ⟨name, u, ty, e1, e2, e3, e4, e5⟩ := h'.2 _ (List.mem_singleton.2 rfl)
  have en : name = [101, 114, 114, 111, 114] := (Option.some.inj e1).symm
  subst en
  obtain rfl := Option.some.inj (rtHandle.symm.trans e2)
  have hm : ty ∈ (List.range 210).filter fun t => Tryd.prog.rowNamed t [101, 114, 114, 111, 114] := List.mem_filter.2 ⟨List.mem_range.2 (by rw [← typesSize]; exact e3), e4⟩
  rw [oneRow] at hm
  obtain rfl := List.mem_singleton.1 hm
  have hh : typeHandle Tryd.prog 33 = .pointer (some ⟨1, 33, none⟩) := by kernel_rfl
  rw [hh] at e5
  have := World.var?_cell gHandle e5 0
  rw [HandleAt, this]
  rfl
end Go.Proofs.YtaipanjigindbaaDoor
