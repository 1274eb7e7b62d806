/-
  The program: what happened between two ledgers, one by one.
-/
import Derived.Test.YtiejogkhobiddaaEvD
namespace Go.Proofs.Ytiejogkhobiddaa
open Go.RowKit Pl
set_option linter.unusedSimpArgs false
set_option linter.unusedVariables false

set_option maxRecDepth 20000 in
set_option maxHeartbeats 16000000 in
theorem stepsOf_any (tk : Int) (b p : Pe) (w : World) :
    Calls Try.prog 39 #[.int .i64 tk, .agg #[.int .i64 b.id, .int .i64 b.fr, .int .i64 b.tw, .int .i64 b.sh, .int .i64 b.ca, .int .i64 b.st, .int .i64 b.pl], .agg #[.int .i64 p.id, .int .i64 p.fr, .int .i64 p.tw, .int .i64 p.sh, .int .i64 p.ca, .int .i64 p.st, .int .i64 p.pl]] w (isOp w (stK tk b p)) := by
  obtain ⟨W0, hW0⟩ : ∃ W0, W0 = ((w.alloc (.cells #[.int .i64 b.id, .int .i64 b.fr, .int .i64 b.tw, .int .i64 b.sh, .int .i64 b.ca, .int .i64 b.st, .int .i64 b.pl] 60)).alloc (.cells #[.int .i64 p.id, .int .i64 p.fr, .int .i64 p.tw, .int .i64 p.sh, .int .i64 p.ca, .int .i64 p.st, .int .i64 p.pl] 60)) := ⟨_, rfl⟩
  have F0 : Hid (Blk W0 w.heap.size [.int .i64 b.id, .int .i64 b.fr, .int .i64 b.tw, .int .i64 b.sh, .int .i64 b.ca, .int .i64 b.st, .int .i64 b.pl]) := by rw [hW0]; exact (Blk.at_ w _ _ _ rfl).alloc _
  have F1 : Hid (Blk W0 (w.heap.size + 1) [.int .i64 p.id, .int .i64 p.fr, .int .i64 p.tw, .int .i64 p.sh, .int .i64 p.ca, .int .i64 p.st, .int .i64 p.pl]) := by rw [hW0]; exact Blk.at_ _ _ _ _ (by simp)
  have FB : Hid (Below w.heap.size w W0) := by rw [hW0]; exact ((Below.refl _ _).alloc (Nat.le_refl _) _).alloc (by simp) _
  have HS : Hid (w.heap.size + 2 ≤ W0.heap.size) := by rw [hW0]; show _ ≤ _; simp
  have HW0 : Hid (W0 = ((w.alloc (.cells #[.int .i64 b.id, .int .i64 b.fr, .int .i64 b.tw, .int .i64 b.sh, .int .i64 b.ca, .int .i64 b.st, .int .i64 b.pl] 60)).alloc (.cells #[.int .i64 p.id, .int .i64 p.fr, .int .i64 p.tw, .int .i64 p.sh, .int .i64 p.ca, .int .i64 p.st, .int .i64 p.pl] 60))) := hW0
  clear hW0
  unfold isOp
  obtain ⟨oo, hoo⟩ : ∃ oo, stK tk b p = oo := ⟨_, rfl⟩
  rw [hoo]
  go_enter Try.func39, Try.ntmps39
  go_upto_region 1 with fail
  rw [← HW0.out]
  clear HW0
  have x1 := F0.out.c 1 _ rfl
  have x2 := F0.out.c 2 _ rfl
  have x5 := F0.out.c 5 _ rfl
  have y1 := F1.out.c 1 _ rfl
  have y2 := F1.out.c 2 _ rfl
  have y5 := F1.out.c 5 _ rfl
  by_cases e1 : b.fr = p.fr
  case neg =>
    have HV : Hid (oo = none) := by rw [← hoo]; exact if_neg (fun z => e1 z.1)
    have n1 : (b.fr != p.fr) = true := by simpa using e1
    clear e1 hoo
    go_wp2_with fail
    go_ret2
    exact ⟨⟨_, by rw [HV.out]; rfl, fun l hl => by rw [HV.out] at hl; cases hl⟩, FB.out⟩
  by_cases e2 : b.tw = p.tw
  case neg =>
    have HV : Hid (oo = none) := by rw [← hoo]; exact if_neg (fun z => e2 z.2)
    have n1 : (b.fr != p.fr) = false := by simpa using e1
    have n2 : (b.tw != p.tw) = true := by simpa using e2
    clear e1 e2 hoo
    go_wp2_with fail
    go_ret2
    exact ⟨⟨_, by rw [HV.out]; rfl, fun l hl => by rw [HV.out] at hl; cases hl⟩, FB.out⟩
  have HO : Hid (oo = stepsP tk b.st p) := by rw [← hoo]; exact if_pos ⟨e1, e2⟩
  have n1 : (b.fr != p.fr) = false := by simpa using e1
  have n2 : (b.tw != p.tw) = false := by simpa using e2
  clear e1 e2 hoo
  go_wp2_with fail
  clear n1 n2 x1 x2 x5 y1 y2 y5
  go_loopw [8, 9] (fun vq ss wr => ∃ (vv : Value) (s : Int) (l : List Ev), vq = vv ∧ ss = .int .i64 s ∧ oo = (stepsP tk s p).map (l ++ ·) ∧ l.length + farS s ≤ 2 ∧ OwnE wr (w.heap.size + 2) vv l ∧ Blk wr w.heap.size [.int .i64 b.id, .int .i64 b.fr, .int .i64 b.tw, .int .i64 b.sh, .int .i64 b.ca, .int .i64 b.st, .int .i64 b.pl] ∧ Blk wr (w.heap.size + 1) [.int .i64 p.id, .int .i64 p.fr, .int .i64 p.tw, .int .i64 p.sh, .int .i64 p.ca, .int .i64 p.st, .int .i64 p.pl] ∧ Below w.heap.size w wr ∧ w.heap.size + 2 ≤ wr.heap.size) (fun _ ss _ => farS (intOf ss))
  case atStart => exact ⟨_, b.st, [], rfl, rfl, by rw [HO.out]; cases stepsP tk b.st p <;> rfl, by unfold farS; (repeat' split) <;> simp, OwnE.nil _ _, F0.out, F1.out, FB.out, HS.out⟩
  case round =>
    obtain ⟨vv, s, l, hvq, rfl, hst, hlen, hO, hF0, hF1, hFB, hsz⟩ := hrel
    have hvq2 := hvq.symm
    subst hvq2
    clear F0 F1 FB HS HO
    have HST : Hid (oo = (stepsP tk s p).map (l ++ ·)) := hst
    have FO : Hid (OwnE wr (w.heap.size + 2) vv l) := hO
    have F0 : Hid (Blk wr w.heap.size [.int .i64 b.id, .int .i64 b.fr, .int .i64 b.tw, .int .i64 b.sh, .int .i64 b.ca, .int .i64 b.st, .int .i64 b.pl]) := hF0
    have F1 : Hid (Blk wr (w.heap.size + 1) [.int .i64 p.id, .int .i64 p.fr, .int .i64 p.tw, .int .i64 p.sh, .int .i64 p.ca, .int .i64 p.st, .int .i64 p.pl]) := hF1
    have FB : Hid (Below w.heap.size w wr) := hFB
    clear hst hO hF0 hF1 hFB
    have y5 := F1.out.c 5 _ rfl
    by_cases e : s = p.st
    · have e1 : (s != p.st) = false := by simpa using e
      have HV : Hid (oo = some l) := by show oo = some l; rw [HST.out]; unfold stepsP; rw [if_pos e]; simp
      clear e HST
      go_wp2_with fail
      go_ret2
      exact ⟨⟨_, by rw [HV.out]; rfl, fun m hm => by rw [HV.out] at hm; cases hm; exact FO.out.base (by omega)⟩, FB.out⟩
    · have e1 : (s != p.st) = true := by simpa using e
      cases kk : (kdT s p.st).2
      · have HV : Hid (oo = none) := by rw [HST.out, steps_no e kk]; rfl
        clear e HST
        go_wp2_with (go_at_call 52; refine (kindToward_any _ _ _).mono ?_; rw [kk]; rintro e w' ⟨rfl, hw⟩; obtain rfl := hw.symm; clear hw)
        go_ret2
        exact ⟨⟨_, by rw [HV.out]; rfl, fun m hm => by rw [HV.out] at hm; cases hm⟩, FB.out⟩
      · obtain ⟨s1, s2, s3⟩ := steps_yes (tk := tk) e kk
        obtain ⟨k, hk⟩ : ∃ k, (kdT s p.st).1 = k := ⟨_, rfl⟩
        rw [hk] at s1 s2 s3
        obtain ⟨ev, hev⟩ : ∃ ev, evOf tk k p = ev := ⟨_, rfl⟩
        rw [hev] at s1
        have HST : Hid (oo = (stepsP tk (stB k) p).map ((l ++ [ev]) ++ ·)) := by
          show oo = _
          rw [HST.out, s1]
          cases stepsP tk (stB k) p <;> simp
        have s4 : k = 1 ∨ k = 2 ∨ k = 3 ∨ k = 4 ∨ k = 5 := Or.inr s3
        clear e s1
        go_upto_region 10 with (first | (refine load_blk 60 _ Try.underlying60 (by kernel_rfl) F1.out rfl rfl rfl ?_) | (go_at_call 52; refine (kindToward_any _ _ _).mono ?_; rw [kk, hk]; rintro e w' ⟨rfl, hw⟩; obtain rfl := hw.symm; clear hw) | (go_at_call 38; refine (eventOf_any tk k p s4 ev hev _).mono ?_; rintro e w1 ⟨rfl, hb⟩; have FO : Hid (OwnE w1 (w.heap.size + 2) vv l) := FO.out.below hb (fun k hk => (FO.out.lt k hk).2); have F0 : Hid (Blk w1 w.heap.size [.int .i64 b.id, .int .i64 b.fr, .int .i64 b.tw, .int .i64 b.sh, .int .i64 b.ca, .int .i64 b.st, .int .i64 b.pl]) := F0.out.below hb F0.out.lt; have F1 : Hid (Blk w1 (w.heap.size + 1) [.int .i64 p.id, .int .i64 p.fr, .int .i64 p.tw, .int .i64 p.sh, .int .i64 p.ca, .int .i64 p.st, .int .i64 p.pl]) := F1.out.below hb F1.out.lt; have FB : Hid (Below w.heap.size w w1) := FB.out.trans (hb.mono FB.out.size); have hsz1 := hb.size; clear hb) | (refine wpList_append_ev _ _ (w.heap.size + 2) _ _ l [ev] (FO.out.alloc _) (vin_new _ ev) (by simp; omega) (by simp; omega) rfl rfl rfl rfl ?_; intro v2 w2 ho hg))
        have L0 := FO.out.lt
        have FB : Hid (Below w.heap.size w w2) := belG (FB.out.alloc FB.out.size _) (FO.out.alloc _) (by omega) (by simp; omega) hg
        have F0 : Hid (Blk w2 w.heap.size [.int .i64 b.id, .int .i64 b.fr, .int .i64 b.tw, .int .i64 b.sh, .int .i64 b.ca, .int .i64 b.st, .int .i64 b.pl]) := (F0.out.alloc _).grown hg (fun z => by have := (L0 _ z.symm).1; omega)
        have F1 : Hid (Blk w2 (w.heap.size + 1) [.int .i64 p.id, .int .i64 p.fr, .int .i64 p.tw, .int .i64 p.sh, .int .i64 p.ca, .int .i64 p.st, .int .i64 p.pl]) := (F1.out.alloc _).grown hg (fun z => by have := (L0 _ z.symm).1; omega)
        have hsz2 : w.heap.size + 2 ≤ w2.heap.size := by have := hg.size; simp at this; omega
        have FO : Hid (OwnE w2 (w.heap.size + 2) v2 (l ++ [ev])) := ho
        clear ho hg L0
        go_wp2_with (go_at_call 53; refine (stateBehind_any k s3 _).mono ?_; rintro e w' ⟨rfl, hw⟩; obtain rfl := hw.symm; clear hw)
        go_roundw
        case rel => exact ⟨v2, stB k, l ++ [ev], rfl, rfl, HST.out, by simp; omega, FO.out, F0.out, F1.out, FB.out, hsz2⟩
        case measure => simpa [intOf] using s2
end Go.Proofs.Ytiejogkhobiddaa
