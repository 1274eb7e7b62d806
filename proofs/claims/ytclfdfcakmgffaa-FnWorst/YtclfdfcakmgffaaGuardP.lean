/-
  The program's guard: GuardPair, StepShaft.
-/
import Derived.Test.YtclfdfcakmgffaaGuardH
import Derived.Test.YtclfdfcakmgffaaGuardO
namespace Go.Proofs.Ytclfdfcakmgffaa
open Go.RowKit Pl
set_option linter.unusedSimpArgs false
set_option linter.unusedVariables false

theorem JW.other7 {W : World} {b kb : Nat} {x : Pr} (a : JW W b x) (hne : b ≠ kb) (k : Int) (s : Sh) : JW (put7 W kb k s) b x := ((((((a.other hne).other hne).other hne).other hne).other hne).other hne).other hne
set_option maxRecDepth 20000 in
set_option maxHeartbeats 16000000 in
theorem implStepShaft_any (h : Hs) (s : Sh) (a b : Cm) (d e : Int) (w : World) :
    Calls Try.prog 14 #[.agg #[.int .i64 h.fl, .int .i64 h.gp, .int .i64 h.ln, .int .i64 h.rf, .int .i64 h.sp, .int .i64 h.pu, .int .i64 h.br, .int .i64 h.dr, .int .i64 h.lv, .int .i64 h.dO, .int .i64 h.ld, .int .i64 h.qu], .agg #[.int .i64 s.lo.pos, .int .i64 s.lo.vel, .int .i64 s.lo.door, .int .i64 s.up.pos, .int .i64 s.up.vel, .int .i64 s.up.door], .agg #[.int .i64 a.push, .bool a.brk, .bool a.opn], .agg #[.int .i64 b.push, .bool b.brk, .bool b.opn], .int .i64 d, .int .i64 e] w (isShaft w (Hs.stepK h s a b d e) (Hs.stepV h s a b d e)) := by
  have F0 : Hid (HAt (((((w.alloc (.cells #[.int .i64 h.fl, .int .i64 h.gp, .int .i64 h.ln, .int .i64 h.rf, .int .i64 h.sp, .int .i64 h.pu, .int .i64 h.br, .int .i64 h.dr, .int .i64 h.lv, .int .i64 h.dO, .int .i64 h.ld, .int .i64 h.qu] 25)).alloc (.cells #[.int .i64 s.lo.pos, .int .i64 s.lo.vel, .int .i64 s.lo.door, .int .i64 s.up.pos, .int .i64 s.up.vel, .int .i64 s.up.door] 40)).alloc (.cells #[.int .i64 a.push, .bool a.brk, .bool a.opn] 29)).alloc (.cells #[.int .i64 b.push, .bool b.brk, .bool b.opn] 29)).alloc (.cells #[.int .i64 0, .int .i64 0, .int .i64 0, .int .i64 0, .int .i64 0, .int .i64 0, .int .i64 0] 44)) w.heap.size h) := ((((HAt.at_ w h _ _ (by simp)).alloc _).alloc _).alloc _).alloc _
  have F1 : Hid (SW (((((w.alloc (.cells #[.int .i64 h.fl, .int .i64 h.gp, .int .i64 h.ln, .int .i64 h.rf, .int .i64 h.sp, .int .i64 h.pu, .int .i64 h.br, .int .i64 h.dr, .int .i64 h.lv, .int .i64 h.dO, .int .i64 h.ld, .int .i64 h.qu] 25)).alloc (.cells #[.int .i64 s.lo.pos, .int .i64 s.lo.vel, .int .i64 s.lo.door, .int .i64 s.up.pos, .int .i64 s.up.vel, .int .i64 s.up.door] 40)).alloc (.cells #[.int .i64 a.push, .bool a.brk, .bool a.opn] 29)).alloc (.cells #[.int .i64 b.push, .bool b.brk, .bool b.opn] 29)).alloc (.cells #[.int .i64 0, .int .i64 0, .int .i64 0, .int .i64 0, .int .i64 0, .int .i64 0, .int .i64 0] 44)) (w.heap.size + 1) s) := (((SW.at_ (w.alloc (.cells #[.int .i64 h.fl, .int .i64 h.gp, .int .i64 h.ln, .int .i64 h.rf, .int .i64 h.sp, .int .i64 h.pu, .int .i64 h.br, .int .i64 h.dr, .int .i64 h.lv, .int .i64 h.dO, .int .i64 h.ld, .int .i64 h.qu] 25)) s _ _ (by simp)).alloc _).alloc _).alloc _
  have F2 : Hid (XW (((((w.alloc (.cells #[.int .i64 h.fl, .int .i64 h.gp, .int .i64 h.ln, .int .i64 h.rf, .int .i64 h.sp, .int .i64 h.pu, .int .i64 h.br, .int .i64 h.dr, .int .i64 h.lv, .int .i64 h.dO, .int .i64 h.ld, .int .i64 h.qu] 25)).alloc (.cells #[.int .i64 s.lo.pos, .int .i64 s.lo.vel, .int .i64 s.lo.door, .int .i64 s.up.pos, .int .i64 s.up.vel, .int .i64 s.up.door] 40)).alloc (.cells #[.int .i64 a.push, .bool a.brk, .bool a.opn] 29)).alloc (.cells #[.int .i64 b.push, .bool b.brk, .bool b.opn] 29)).alloc (.cells #[.int .i64 0, .int .i64 0, .int .i64 0, .int .i64 0, .int .i64 0, .int .i64 0, .int .i64 0] 44)) (w.heap.size + 2) a) := ((XW.at_ ((w.alloc (.cells #[.int .i64 h.fl, .int .i64 h.gp, .int .i64 h.ln, .int .i64 h.rf, .int .i64 h.sp, .int .i64 h.pu, .int .i64 h.br, .int .i64 h.dr, .int .i64 h.lv, .int .i64 h.dO, .int .i64 h.ld, .int .i64 h.qu] 25)).alloc (.cells #[.int .i64 s.lo.pos, .int .i64 s.lo.vel, .int .i64 s.lo.door, .int .i64 s.up.pos, .int .i64 s.up.vel, .int .i64 s.up.door] 40)) a _ _ (by simp)).alloc _).alloc _
  have F3 : Hid (XW (((((w.alloc (.cells #[.int .i64 h.fl, .int .i64 h.gp, .int .i64 h.ln, .int .i64 h.rf, .int .i64 h.sp, .int .i64 h.pu, .int .i64 h.br, .int .i64 h.dr, .int .i64 h.lv, .int .i64 h.dO, .int .i64 h.ld, .int .i64 h.qu] 25)).alloc (.cells #[.int .i64 s.lo.pos, .int .i64 s.lo.vel, .int .i64 s.lo.door, .int .i64 s.up.pos, .int .i64 s.up.vel, .int .i64 s.up.door] 40)).alloc (.cells #[.int .i64 a.push, .bool a.brk, .bool a.opn] 29)).alloc (.cells #[.int .i64 b.push, .bool b.brk, .bool b.opn] 29)).alloc (.cells #[.int .i64 0, .int .i64 0, .int .i64 0, .int .i64 0, .int .i64 0, .int .i64 0, .int .i64 0] 44)) (w.heap.size + 3) b) := (XW.at_ (((w.alloc (.cells #[.int .i64 h.fl, .int .i64 h.gp, .int .i64 h.ln, .int .i64 h.rf, .int .i64 h.sp, .int .i64 h.pu, .int .i64 h.br, .int .i64 h.dr, .int .i64 h.lv, .int .i64 h.dO, .int .i64 h.ld, .int .i64 h.qu] 25)).alloc (.cells #[.int .i64 s.lo.pos, .int .i64 s.lo.vel, .int .i64 s.lo.door, .int .i64 s.up.pos, .int .i64 s.up.vel, .int .i64 s.up.door] 40)).alloc (.cells #[.int .i64 a.push, .bool a.brk, .bool a.opn] 29)) b _ _ (by simp)).alloc _
  have F4 : Hid (R7 (((((w.alloc (.cells #[.int .i64 h.fl, .int .i64 h.gp, .int .i64 h.ln, .int .i64 h.rf, .int .i64 h.sp, .int .i64 h.pu, .int .i64 h.br, .int .i64 h.dr, .int .i64 h.lv, .int .i64 h.dO, .int .i64 h.ld, .int .i64 h.qu] 25)).alloc (.cells #[.int .i64 s.lo.pos, .int .i64 s.lo.vel, .int .i64 s.lo.door, .int .i64 s.up.pos, .int .i64 s.up.vel, .int .i64 s.up.door] 40)).alloc (.cells #[.int .i64 a.push, .bool a.brk, .bool a.opn] 29)).alloc (.cells #[.int .i64 b.push, .bool b.brk, .bool b.opn] 29)).alloc (.cells #[.int .i64 0, .int .i64 0, .int .i64 0, .int .i64 0, .int .i64 0, .int .i64 0, .int .i64 0] 44)) (w.heap.size + 4)) := R7.at_ ((((w.alloc (.cells #[.int .i64 h.fl, .int .i64 h.gp, .int .i64 h.ln, .int .i64 h.rf, .int .i64 h.sp, .int .i64 h.pu, .int .i64 h.br, .int .i64 h.dr, .int .i64 h.lv, .int .i64 h.dO, .int .i64 h.ld, .int .i64 h.qu] 25)).alloc (.cells #[.int .i64 s.lo.pos, .int .i64 s.lo.vel, .int .i64 s.lo.door, .int .i64 s.up.pos, .int .i64 s.up.vel, .int .i64 s.up.door] 40)).alloc (.cells #[.int .i64 a.push, .bool a.brk, .bool a.opn] 29)).alloc (.cells #[.int .i64 b.push, .bool b.brk, .bool b.opn] 29)) _ _ (by simp)
  have FB : Hid (Below w.heap.size w (((((w.alloc (.cells #[.int .i64 h.fl, .int .i64 h.gp, .int .i64 h.ln, .int .i64 h.rf, .int .i64 h.sp, .int .i64 h.pu, .int .i64 h.br, .int .i64 h.dr, .int .i64 h.lv, .int .i64 h.dO, .int .i64 h.ld, .int .i64 h.qu] 25)).alloc (.cells #[.int .i64 s.lo.pos, .int .i64 s.lo.vel, .int .i64 s.lo.door, .int .i64 s.up.pos, .int .i64 s.up.vel, .int .i64 s.up.door] 40)).alloc (.cells #[.int .i64 a.push, .bool a.brk, .bool a.opn] 29)).alloc (.cells #[.int .i64 b.push, .bool b.brk, .bool b.opn] 29)).alloc (.cells #[.int .i64 0, .int .i64 0, .int .i64 0, .int .i64 0, .int .i64 0, .int .i64 0, .int .i64 0] 44))) := ((((((Below.refl _ _).alloc (Nat.le_refl _) _).alloc (by simp <;> omega) _).alloc (by simp <;> omega) _).alloc (by simp <;> omega) _).alloc (by simp <;> omega) _)
  by_cases hk : Hs.pairK h s a b = 0
  · have o := (pair_ok hk).1.ok
    have r1 := o.dr1; have r2 := o.dr2; have r3 := o.pu2; have r4 := o.sp2
    have en : IntKind.i64.wrap (-h.dr) = -h.dr := IntWalk.i64_in _ (by omega)
    clear o
    cases i1 : inB d (-h.dr) h.dr with
    | false =>
      have e1 : Hs.stepK h s a b d e = 3 := by unfold Hs.stepK; rw [if_pos hk, i1]; simp
      have e2 : Hs.stepV h s a b d e = ⟨⟨0, 0, 0⟩, ⟨0, 0, 0⟩⟩ := by unfold Hs.stepV; rw [e1]; simp
      rw [e1, e2]
      go_enter Try.func14, Try.ntmps14
      go_wp2_with (first | (go_at_call 37; refine (pairFault_any h s a b _).mono ?_; rw [hk]; rintro r w1 ⟨rfl, hb⟩; have F0 : Hid (HAt w1 w.heap.size h) := F0.out.below hb F0.out.lt; have F1 : Hid (SW w1 (w.heap.size + 1) s) := F1.out.below hb F1.out.lt; have F2 : Hid (XW w1 (w.heap.size + 2) a) := F2.out.below hb F2.out.lt; have F3 : Hid (XW w1 (w.heap.size + 3) b) := F3.out.below hb F3.out.lt; have F4 : Hid (R7 w1 (w.heap.size + 4)) := F4.out.below hb F4.out.lt; have FB : Hid (Below w.heap.size w w1) := FB.out.trans (hb.mono FB.out.size); clear hb; obtain ⟨x0_0, x0_1, x0_2, x0_3, x0_4, x0_5, x0_6, x0_7, x0_8, x0_9, x0_10, x0_11⟩ := F0.out; obtain ⟨x1_0, x1_1, x1_2, x1_3, x1_4, x1_5, y1_0, y1_1, y1_2, y1_3, y1_4, y1_5⟩ := F1.out; obtain ⟨x2_0, x2_1, x2_2, y2_0, y2_1, y2_2⟩ := F2.out; obtain ⟨x3_0, x3_1, x3_2, y3_0, y3_1, y3_2⟩ := F3.out; obtain ⟨x4_0, x4_1, x4_2, x4_3, x4_4, x4_5, x4_6, y4_0, y4_1, y4_2, y4_3, y4_4, y4_5, y4_6⟩ := F4.out) | (go_at_call 30; refine (isWithin_any _ _ _ _).mono ?_; rintro r w' ⟨rfl, hw⟩; obtain rfl := hw.symm; clear hw))
      change bodyPost _ _ _ _ _ (put7 w1 (w.heap.size + 4) 3 (⟨⟨0, 0, 0⟩, ⟨0, 0, 0⟩⟩ : Sh))
      obtain ⟨Wf, hWf⟩ : ∃ Wf, put7 w1 (w.heap.size + 4) 3 (⟨⟨0, 0, 0⟩, ⟨0, 0, 0⟩⟩ : Sh) = Wf := ⟨_, rfl⟩
      have HRf : V7 Wf (w.heap.size + 4) 3 (⟨⟨0, 0, 0⟩, ⟨0, 0, 0⟩⟩ : Sh) := hWf ▸ F4.out.put _ _
      have HBf : Below w.heap.size w Wf := hWf ▸ below_put7 FB.out (by omega) _ _
      rw [hWf]
      clear hWf
      obtain ⟨d0, d1, d2, d3, d4, d5, d6⟩ := HRf
      try dsimp only at d0 d1 d2 d3 d4 d5 d6
      exact bodyPost_ret (v := .agg #[.int .i64 3, .int .i64 0, .int .i64 0, .int .i64 0, .int .i64 0, .int .i64 0, .int .i64 0]) (by simp [results, Try.results14, go_sem, d0, d1, d2, d3, d4, d5, d6]) rfl ⟨rfl, HBf⟩
    | true =>
      cases i2 : inB e (-h.dr) h.dr with
      | false =>
        have e1 : Hs.stepK h s a b d e = 3 := by unfold Hs.stepK; rw [if_pos hk, i2]; simp
        have e2 : Hs.stepV h s a b d e = ⟨⟨0, 0, 0⟩, ⟨0, 0, 0⟩⟩ := by unfold Hs.stepV; rw [e1]; simp
        rw [e1, e2]
        go_enter Try.func14, Try.ntmps14
        go_wp2_with (first | (go_at_call 37; refine (pairFault_any h s a b _).mono ?_; rw [hk]; rintro r w1 ⟨rfl, hb⟩; have F0 : Hid (HAt w1 w.heap.size h) := F0.out.below hb F0.out.lt; have F1 : Hid (SW w1 (w.heap.size + 1) s) := F1.out.below hb F1.out.lt; have F2 : Hid (XW w1 (w.heap.size + 2) a) := F2.out.below hb F2.out.lt; have F3 : Hid (XW w1 (w.heap.size + 3) b) := F3.out.below hb F3.out.lt; have F4 : Hid (R7 w1 (w.heap.size + 4)) := F4.out.below hb F4.out.lt; have FB : Hid (Below w.heap.size w w1) := FB.out.trans (hb.mono FB.out.size); clear hb; obtain ⟨x0_0, x0_1, x0_2, x0_3, x0_4, x0_5, x0_6, x0_7, x0_8, x0_9, x0_10, x0_11⟩ := F0.out; obtain ⟨x1_0, x1_1, x1_2, x1_3, x1_4, x1_5, y1_0, y1_1, y1_2, y1_3, y1_4, y1_5⟩ := F1.out; obtain ⟨x2_0, x2_1, x2_2, y2_0, y2_1, y2_2⟩ := F2.out; obtain ⟨x3_0, x3_1, x3_2, y3_0, y3_1, y3_2⟩ := F3.out; obtain ⟨x4_0, x4_1, x4_2, x4_3, x4_4, x4_5, x4_6, y4_0, y4_1, y4_2, y4_3, y4_4, y4_5, y4_6⟩ := F4.out) | (go_at_call 30; refine (isWithin_any _ _ _ _).mono ?_; rintro r w' ⟨rfl, hw⟩; obtain rfl := hw.symm; clear hw))
        change bodyPost _ _ _ _ _ (put7 w1 (w.heap.size + 4) 3 (⟨⟨0, 0, 0⟩, ⟨0, 0, 0⟩⟩ : Sh))
        obtain ⟨Wf, hWf⟩ : ∃ Wf, put7 w1 (w.heap.size + 4) 3 (⟨⟨0, 0, 0⟩, ⟨0, 0, 0⟩⟩ : Sh) = Wf := ⟨_, rfl⟩
        have HRf : V7 Wf (w.heap.size + 4) 3 (⟨⟨0, 0, 0⟩, ⟨0, 0, 0⟩⟩ : Sh) := hWf ▸ F4.out.put _ _
        have HBf : Below w.heap.size w Wf := hWf ▸ below_put7 FB.out (by omega) _ _
        rw [hWf]
        clear hWf
        obtain ⟨d0, d1, d2, d3, d4, d5, d6⟩ := HRf
        try dsimp only at d0 d1 d2 d3 d4 d5 d6
        exact bodyPost_ret (v := .agg #[.int .i64 3, .int .i64 0, .int .i64 0, .int .i64 0, .int .i64 0, .int .i64 0, .int .i64 0]) (by simp [results, Try.results14, go_sem, d0, d1, d2, d3, d4, d5, d6]) rfl ⟨rfl, HBf⟩
      | true =>
        have e1 : Hs.stepK h s a b d e = 0 := by unfold Hs.stepK; rw [if_pos hk, i1, i2]; simp
        obtain ⟨k1, k2, k3, k4⟩ := pair_ok hk
        have HS : Hid (h.shaft s = 0) := (pair_zero hk).1
        have HA : Hid (-h.pu ≤ a.push ∧ a.push ≤ h.pu) := k3
        have HB : Hid (-h.pu ≤ b.push ∧ b.push ≤ h.pu) := k4
        obtain ⟨p, hp⟩ : ∃ p, Hs.grd h s a b = p := ⟨_, rfl⟩
        have HG : Hid (Hs.grd h s a b = p) := hp
        obtain ⟨z1, z2, z3⟩ := pair_zero hk
        have gc := grd_cmd (s := s) k1.hf k1.ok a b z2 z3
        rw [hp] at gc
        obtain ⟨g1, hg1⟩ : ∃ g1, stepC h s.lo p.1 d = g1 := ⟨_, rfl⟩
        obtain ⟨g2, hg2⟩ : ∃ g2, stepC h s.up p.2 e = g2 := ⟨_, rfl⟩
        have e2 : Hs.stepV h s a b d e = ⟨g1, g2⟩ := by unfold Hs.stepV; rw [if_pos e1]; unfold Hs.stepS; rw [hp, hg1, hg2]
        rw [e1, e2]
        have HG1 : Hid (stepC h s.lo p.1 d = g1) := hg1
        have HG2 : Hid (stepC h s.up p.2 e = g2) := hg2
        have HL : Hid (CarOk h s.lo) := k1
        have HU : Hid (CarOk h s.up) := k2
        have HP : Hid (-h.pu ≤ p.1.push ∧ p.1.push ≤ h.pu) := cmd_push k1.hf gc.1
        have HQ : Hid (-h.pu ≤ p.2.push ∧ p.2.push ≤ h.pu) := cmd_push k1.hf gc.2
        have HD : Hid (-h.dr ≤ d ∧ d ≤ h.dr) := inB_iff.1 i1
        have HE : Hid (-h.dr ≤ e ∧ e ≤ h.dr) := inB_iff.1 i2
        clear k1 k2 k3 k4 z1 z2 z3 gc hp hg1 hg2 e1 e2
        go_enter Try.func14, Try.ntmps14
        go_upto_region 7 with (first | (go_at_call 37; refine (pairFault_any h s a b _).mono ?_; rw [hk]; rintro r w1 ⟨rfl, hb⟩; have F0 : Hid (HAt w1 w.heap.size h) := F0.out.below hb F0.out.lt; have F1 : Hid (SW w1 (w.heap.size + 1) s) := F1.out.below hb F1.out.lt; have F2 : Hid (XW w1 (w.heap.size + 2) a) := F2.out.below hb F2.out.lt; have F3 : Hid (XW w1 (w.heap.size + 3) b) := F3.out.below hb F3.out.lt; have F4 : Hid (R7 w1 (w.heap.size + 4)) := F4.out.below hb F4.out.lt; have FB : Hid (Below w.heap.size w w1) := FB.out.trans (hb.mono FB.out.size); clear hb; obtain ⟨x0_0, x0_1, x0_2, x0_3, x0_4, x0_5, x0_6, x0_7, x0_8, x0_9, x0_10, x0_11⟩ := F0.out; obtain ⟨x1_0, x1_1, x1_2, x1_3, x1_4, x1_5, y1_0, y1_1, y1_2, y1_3, y1_4, y1_5⟩ := F1.out; obtain ⟨x2_0, x2_1, x2_2, y2_0, y2_1, y2_2⟩ := F2.out; obtain ⟨x3_0, x3_1, x3_2, y3_0, y3_1, y3_2⟩ := F3.out; obtain ⟨x4_0, x4_1, x4_2, x4_3, x4_4, x4_5, x4_6, y4_0, y4_1, y4_2, y4_3, y4_4, y4_5, y4_6⟩ := F4.out) | (go_at_call 30; refine (isWithin_any _ _ _ _).mono ?_; rintro r w' ⟨rfl, hw⟩; obtain rfl := hw.symm; clear hw) | (go_at_call 38; refine (guarded_any h s a b HS.out HA.out.1 HA.out.2 HB.out.1 HB.out.2 p HG.out _).mono ?_; rintro r w2 ⟨rfl, hb⟩; have F0 : Hid (HAt w2 w.heap.size h) := F0.out.below hb F0.out.lt; have F1 : Hid (SW w2 (w.heap.size + 1) s) := F1.out.below hb F1.out.lt; have F2 : Hid (XW w2 (w.heap.size + 2) a) := F2.out.below hb F2.out.lt; have F3 : Hid (XW w2 (w.heap.size + 3) b) := F3.out.below hb F3.out.lt; have F4 : Hid (R7 w2 (w.heap.size + 4)) := F4.out.below hb F4.out.lt; have FB : Hid (Below w.heap.size w w2) := FB.out.trans (hb.mono FB.out.size); clear hb; obtain ⟨x0_0, x0_1, x0_2, x0_3, x0_4, x0_5, x0_6, x0_7, x0_8, x0_9, x0_10, x0_11⟩ := F0.out; obtain ⟨x1_0, x1_1, x1_2, x1_3, x1_4, x1_5, y1_0, y1_1, y1_2, y1_3, y1_4, y1_5⟩ := F1.out; obtain ⟨x2_0, x2_1, x2_2, y2_0, y2_1, y2_2⟩ := F2.out; obtain ⟨x3_0, x3_1, x3_2, y3_0, y3_1, y3_2⟩ := F3.out; obtain ⟨x4_0, x4_1, x4_2, x4_3, x4_4, x4_5, x4_6, y4_0, y4_1, y4_2, y4_3, y4_4, y4_5, y4_6⟩ := F4.out))
        obtain ⟨pb, hbb⟩ : ∃ pb, pb = w2.heap.size := ⟨_, rfl⟩
        obtain ⟨w3, hw2⟩ : ∃ w3, w3 = w2.alloc (.cells #[.int .i64 p.1.push, .bool p.1.brk, .bool p.1.opn, .int .i64 p.2.push, .bool p.2.brk, .bool p.2.opn] 66) := ⟨_, rfl⟩
        have lpbF0 := F0.out.lt
        rw [← hbb] at lpbF0
        have F0 : Hid (HAt w3 w.heap.size h) := by rw [hw2]; exact F0.out.alloc _
        have lpbF1 := F1.out.lt
        rw [← hbb] at lpbF1
        have F1 : Hid (SW w3 (w.heap.size + 1) s) := by rw [hw2]; exact F1.out.alloc _
        have lpbF2 := F2.out.lt
        rw [← hbb] at lpbF2
        have F2 : Hid (XW w3 (w.heap.size + 2) a) := by rw [hw2]; exact F2.out.alloc _
        have lpbF3 := F3.out.lt
        rw [← hbb] at lpbF3
        have F3 : Hid (XW w3 (w.heap.size + 3) b) := by rw [hw2]; exact F3.out.alloc _
        have lpbF4 := F4.out.lt
        rw [← hbb] at lpbF4
        have F4 : Hid (R7 w3 (w.heap.size + 4)) := by rw [hw2]; exact F4.out.alloc _
        have lpbB : w.heap.size ≤ pb := by rw [hbb]; exact FB.out.size
        have FB : Hid (Below w.heap.size w w3) := by rw [hw2]; exact FB.out.alloc FB.out.size _
        have F5 : Hid (JW w3 pb (⟨p.1, p.2⟩ : Pr)) := by rw [hw2]; exact JW.at_ w2 ⟨p.1, p.2⟩ _ pb hbb
        rw [← hw2, ← hbb]
        clear hbb hw2
        clear x0_0 x0_1 x0_2 x0_3 x0_4 x0_5 x0_6 x0_7 x0_8 x0_9 x0_10 x0_11 x1_0 x1_1 x1_2 x1_3 x1_4 x1_5 y1_0 y1_1 y1_2 y1_3 y1_4 y1_5 x2_0 x2_1 x2_2 y2_0 y2_1 y2_2 x3_0 x3_1 x3_2 y3_0 y3_1 y3_2 x4_0 x4_1 x4_2 x4_3 x4_4 x4_5 x4_6 y4_0 y4_1 y4_2 y4_3 y4_4 y4_5 y4_6
        have F0 : Hid (HAt w3.drew w.heap.size h) := F0.out.below (Below.refl _ _).drew F0.out.lt
        have F1 : Hid (SW w3.drew (w.heap.size + 1) s) := F1.out.below (Below.refl _ _).drew F1.out.lt
        have F4 : Hid (R7 w3.drew (w.heap.size + 4)) := F4.out.below (Below.refl _ _).drew F4.out.lt
        have F5 : Hid (JW w3.drew pb (⟨p.1, p.2⟩ : Pr)) := F5.out.below (Below.refl _ _).drew F5.out.lt
        have FB : Hid (Below w.heap.size w w3.drew) := FB.out.drew
        obtain ⟨x0_0, x0_1, x0_2, x0_3, x0_4, x0_5, x0_6, x0_7, x0_8, x0_9, x0_10, x0_11⟩ := F0.out
        obtain ⟨x1_0, x1_1, x1_2, x1_3, x1_4, x1_5, y1_0, y1_1, y1_2, y1_3, y1_4, y1_5⟩ := F1.out
        have z0_ := F5.out.c0
        have z1_ := F5.out.c1
        have z2_ := F5.out.c2
        have z3_ := F5.out.c3
        have z4_ := F5.out.c4
        have z5_ := F5.out.c5
        refine wp_region_held_drew (S := (fun w'' => w''.cell? ⟨w.heap.size, 0, none⟩ = some (.int .i64 h.fl) ∧ w''.cell? ⟨w.heap.size, 1, none⟩ = some (.int .i64 h.gp) ∧ w''.cell? ⟨w.heap.size, 2, none⟩ = some (.int .i64 h.ln) ∧ w''.cell? ⟨w.heap.size, 3, none⟩ = some (.int .i64 h.rf) ∧ w''.cell? ⟨w.heap.size, 4, none⟩ = some (.int .i64 h.sp) ∧ w''.cell? ⟨w.heap.size, 5, none⟩ = some (.int .i64 h.pu) ∧ w''.cell? ⟨w.heap.size, 6, none⟩ = some (.int .i64 h.br) ∧ w''.cell? ⟨w.heap.size, 7, none⟩ = some (.int .i64 h.dr) ∧ w''.cell? ⟨w.heap.size, 8, none⟩ = some (.int .i64 h.lv) ∧ w''.cell? ⟨w.heap.size, 9, none⟩ = some (.int .i64 h.dO) ∧ w''.cell? ⟨w.heap.size, 10, none⟩ = some (.int .i64 h.ld) ∧ w''.cell? ⟨w.heap.size, 11, none⟩ = some (.int .i64 h.qu) ∧ w''.cell? ⟨(w.heap.size + 1), 0, none⟩ = some (.int .i64 s.lo.pos) ∧ w''.cell? ⟨(w.heap.size + 1), 1, none⟩ = some (.int .i64 s.lo.vel) ∧ w''.cell? ⟨(w.heap.size + 1), 2, none⟩ = some (.int .i64 s.lo.door) ∧ w''.cell? ⟨(w.heap.size + 1), 3, none⟩ = some (.int .i64 s.up.pos) ∧ w''.cell? ⟨(w.heap.size + 1), 4, none⟩ = some (.int .i64 s.up.vel) ∧ w''.cell? ⟨(w.heap.size + 1), 5, none⟩ = some (.int .i64 s.up.door) ∧ w''.cell? ⟨pb, 0, none⟩ = some (.int .i64 p.1.push) ∧ w''.cell? ⟨pb, 1, none⟩ = some (.bool p.1.brk) ∧ w''.cell? ⟨pb, 2, none⟩ = some (.bool p.1.opn) ∧ w''.cell? ⟨pb, 3, none⟩ = some (.int .i64 p.2.push) ∧ w''.cell? ⟨pb, 4, none⟩ = some (.bool p.2.brk) ∧ w''.cell? ⟨pb, 5, none⟩ = some (.bool p.2.opn))) (by kernel_rfl) (by (try dsimp only); first | exact ⟨x0_0, x0_1, x0_2, x0_3, x0_4, x0_5, x0_6, x0_7, x0_8, x0_9, x0_10, x0_11, x1_0, x1_1, x1_2, x1_3, x1_4, x1_5, z0_, z1_, z2_, z3_, z4_, z5_⟩ | go_keep) (fun hHeld => ?_)
        obtain ⟨v_1, hw1⟩ : ∃ v_1, v_1 = w3.drew := ⟨_, rfl⟩
        have F0 : Hid (HAt v_1 w.heap.size h) := by rw [hw1]; exact F0.out
        have F1 : Hid (SW v_1 (w.heap.size + 1) s) := by rw [hw1]; exact F1.out
        have F4 : Hid (R7 v_1 (w.heap.size + 4)) := by rw [hw1]; exact F4.out
        have F5 : Hid (JW v_1 pb (⟨p.1, p.2⟩ : Pr)) := by rw [hw1]; exact F5.out
        have FB : Hid (Below w.heap.size w v_1) := by rw [hw1]; exact FB.out
        rw [← hw1] at hHeld ⊢
        clear hw1
        obtain ⟨x0_0, x0_1, x0_2, x0_3, x0_4, x0_5, x0_6, x0_7, x0_8, x0_9, x0_10, x0_11⟩ := F0.out
        obtain ⟨x1_0, x1_1, x1_2, x1_3, x1_4, x1_5, y1_0, y1_1, y1_2, y1_3, y1_4, y1_5⟩ := F1.out
        have z0_ := F5.out.c0
        have z1_ := F5.out.c1
        have z2_ := F5.out.c2
        have z3_ := F5.out.c3
        have z4_ := F5.out.c4
        have z5_ := F5.out.c5
        refine tkz 0 rfl ?_
        refine tkz 1 rfl ?_
        refine tkz 2 rfl ?_
        refine tkz 3 rfl ?_
        refine tkz 4 rfl ?_
        refine tkz 5 rfl ?_
        refine tkz 7 rfl ?_
        refine tkz 8 rfl ?_
        refine tkz 9 rfl ?_
        refine tkz 10 rfl ?_
        refine tkz 11 rfl ?_
        refine tkz 12 rfl ?_
        refine wpAnyH_ready (rs := [6]) (by kernel_rfl) (by simp) ?_
        refine (AllReadyH.cons rfl (fun K hK => ?_) AllReadyH.nil)
        go_simp
        refine (carBehind_any h s.lo p.1 d HL.out HP.out.1 HP.out.2 HD.out.1 HD.out.2 g1 HG1.out _).mono ?_
        rintro e v_2 ⟨rfl, hb⟩
        have F0 : Hid (HAt v_2 w.heap.size h) := F0.out.below hb F0.out.lt
        have F1 : Hid (SW v_2 (w.heap.size + 1) s) := F1.out.below hb F1.out.lt
        have F4 : Hid (R7 v_2 (w.heap.size + 4)) := F4.out.below hb F4.out.lt
        have F5 : Hid (JW v_2 pb (⟨p.1, p.2⟩ : Pr)) := F5.out.below hb F5.out.lt
        have FB : Hid (Below w.heap.size w v_2) := FB.out.trans (hb.mono FB.out.size)
        clear hb
        obtain ⟨x0_0, x0_1, x0_2, x0_3, x0_4, x0_5, x0_6, x0_7, x0_8, x0_9, x0_10, x0_11⟩ := F0.out
        obtain ⟨x1_0, x1_1, x1_2, x1_3, x1_4, x1_5, y1_0, y1_1, y1_2, y1_3, y1_4, y1_5⟩ := F1.out
        have z0_ := F5.out.c0
        have z1_ := F5.out.c1
        have z2_ := F5.out.c2
        have z3_ := F5.out.c3
        have z4_ := F5.out.c4
        have z5_ := F5.out.c5
        try dsimp only
        refine hK.out _ _ (by (try dsimp only); first | exact ⟨x0_0, x0_1, x0_2, x0_3, x0_4, x0_5, x0_6, x0_7, x0_8, x0_9, x0_10, x0_11, x1_0, x1_1, x1_2, x1_3, x1_4, x1_5, z0_, z1_, z2_, z3_, z4_, z5_⟩ | go_keep) (fun hHeld => ?_)
        clear hK K
        try simp only [Act.put, List.getElem_toArray, List.getElem_cons_succ, List.getElem_cons_zero, List.setIfInBounds_toArray, List.set_cons_zero, List.set_cons_succ]
        refine wpAnyH_ready (rs := [13]) (by kernel_rfl) (by simp) ?_
        refine (AllReadyH.cons rfl (fun K hK => ?_) AllReadyH.nil)
        go_simp
        refine (carBehind_any h s.up p.2 e HU.out HQ.out.1 HQ.out.2 HE.out.1 HE.out.2 g2 HG2.out _).mono ?_
        rintro e v_3 ⟨rfl, hb⟩
        have F0 : Hid (HAt v_3 w.heap.size h) := F0.out.below hb F0.out.lt
        have F1 : Hid (SW v_3 (w.heap.size + 1) s) := F1.out.below hb F1.out.lt
        have F4 : Hid (R7 v_3 (w.heap.size + 4)) := F4.out.below hb F4.out.lt
        have F5 : Hid (JW v_3 pb (⟨p.1, p.2⟩ : Pr)) := F5.out.below hb F5.out.lt
        have FB : Hid (Below w.heap.size w v_3) := FB.out.trans (hb.mono FB.out.size)
        clear hb
        obtain ⟨x0_0, x0_1, x0_2, x0_3, x0_4, x0_5, x0_6, x0_7, x0_8, x0_9, x0_10, x0_11⟩ := F0.out
        obtain ⟨x1_0, x1_1, x1_2, x1_3, x1_4, x1_5, y1_0, y1_1, y1_2, y1_3, y1_4, y1_5⟩ := F1.out
        have z0_ := F5.out.c0
        have z1_ := F5.out.c1
        have z2_ := F5.out.c2
        have z3_ := F5.out.c3
        have z4_ := F5.out.c4
        have z5_ := F5.out.c5
        try dsimp only
        refine hK.out _ _ (by (try dsimp only); first | exact ⟨x0_0, x0_1, x0_2, x0_3, x0_4, x0_5, x0_6, x0_7, x0_8, x0_9, x0_10, x0_11, x1_0, x1_1, x1_2, x1_3, x1_4, x1_5, z0_, z1_, z2_, z3_, z4_, z5_⟩ | go_keep) (fun hHeld => ?_)
        clear hK K
        try simp only [Act.put, List.getElem_toArray, List.getElem_cons_succ, List.getElem_cons_zero, List.setIfInBounds_toArray, List.set_cons_zero, List.set_cons_succ]
        refine tkz 14 rfl ?_
        refine tkz 15 rfl ?_
        refine wpAnyH_ready (rs := [16]) (by kernel_rfl) (by simp) ?_
        refine (AllReadyH.cons rfl (fun K hK => ?_) AllReadyH.nil)
        obtain ⟨x4_0, x4_1, x4_2, x4_3, x4_4, x4_5, x4_6, y4_0, y4_1, y4_2, y4_3, y4_4, y4_5, y4_6⟩ := F4.out
        go_simp
        obtain ⟨v_4, hw2⟩ : ∃ v_4, v_4 = put7 v_3 (w.heap.size + 4) 0 (⟨g1, g2⟩ : Sh) := ⟨_, rfl⟩
        change K _ (put7 v_3 (w.heap.size + 4) 0 (⟨g1, g2⟩ : Sh))
        rw [← hw2]
        clear x4_0 x4_1 x4_2 x4_3 x4_4 x4_5 x4_6 y4_0 y4_1 y4_2 y4_3 y4_4 y4_5 y4_6
        have F0 : Hid (HAt v_4 w.heap.size h) := by rw [hw2]; exact F0.out.below (below_put7 (Below.refl _ _) (Nat.le_refl _) _ _) (by omega)
        have F1 : Hid (SW v_4 (w.heap.size + 1) s) := by rw [hw2]; exact F1.out.below (below_put7 (Below.refl _ _) (Nat.le_refl _) _ _) (by omega)
        have F4 : Hid (V7 v_4 (w.heap.size + 4) 0 (⟨g1, g2⟩ : Sh)) := by rw [hw2]; exact F4.out.put _ _
        have F5 : Hid (JW v_4 pb (⟨p.1, p.2⟩ : Pr)) := by rw [hw2]; exact JW.other7 F5.out (by omega) _ _
        have FB : Hid (Below w.heap.size w v_4) := by rw [hw2]; exact below_put7 FB.out (by omega) _ _
        clear hw2
        obtain ⟨x0_0, x0_1, x0_2, x0_3, x0_4, x0_5, x0_6, x0_7, x0_8, x0_9, x0_10, x0_11⟩ := F0.out
        obtain ⟨x1_0, x1_1, x1_2, x1_3, x1_4, x1_5, y1_0, y1_1, y1_2, y1_3, y1_4, y1_5⟩ := F1.out
        have z0_ := F5.out.c0
        have z1_ := F5.out.c1
        have z2_ := F5.out.c2
        have z3_ := F5.out.c3
        have z4_ := F5.out.c4
        have z5_ := F5.out.c5
        refine hK.out _ _ (by (try dsimp only); first | exact ⟨x0_0, x0_1, x0_2, x0_3, x0_4, x0_5, x0_6, x0_7, x0_8, x0_9, x0_10, x0_11, x1_0, x1_1, x1_2, x1_3, x1_4, x1_5, z0_, z1_, z2_, z3_, z4_, z5_⟩ | go_keep) (fun hHeld => ?_)
        clear hK K
        try simp only [Act.put, List.getElem_toArray, List.getElem_cons_succ, List.getElem_cons_zero, List.setIfInBounds_toArray, List.set_cons_zero, List.set_cons_succ]
        refine wpAnyH_done (by kernel_rfl) ?_ _
        obtain ⟨x4_0, x4_1, x4_2, x4_3, x4_4, x4_5, x4_6⟩ := F4.out
        try dsimp only at x4_0 x4_1 x4_2 x4_3 x4_4 x4_5 x4_6
        go_wp2_with fail
        exact bodyPost_ret (v := .agg #[.int .i64 0, .int .i64 g1.pos, .int .i64 g1.vel, .int .i64 g1.door, .int .i64 g2.pos, .int .i64 g2.vel, .int .i64 g2.door]) (by simp [results, Try.results14, go_sem, x4_0, x4_1, x4_2, x4_3, x4_4, x4_5, x4_6]) rfl ⟨rfl, FB.out⟩
  · have e1 : Hs.stepK h s a b d e = Hs.pairK h s a b := by unfold Hs.stepK; rw [if_neg hk]
    have e2 : Hs.stepV h s a b d e = ⟨⟨0, 0, 0⟩, ⟨0, 0, 0⟩⟩ := by unfold Hs.stepV; rw [e1, if_neg hk]
    rw [e1, e2]
    have hn : (Hs.pairK h s a b != 0) = true := by simpa using hk
    clear hk e1 e2
    go_enter Try.func14, Try.ntmps14
    go_wp2_with (go_at_call 37; refine (pairFault_any h s a b _).mono ?_; rintro r w1 ⟨rfl, hb⟩; have F0 : Hid (HAt w1 w.heap.size h) := F0.out.below hb F0.out.lt; have F1 : Hid (SW w1 (w.heap.size + 1) s) := F1.out.below hb F1.out.lt; have F2 : Hid (XW w1 (w.heap.size + 2) a) := F2.out.below hb F2.out.lt; have F3 : Hid (XW w1 (w.heap.size + 3) b) := F3.out.below hb F3.out.lt; have F4 : Hid (R7 w1 (w.heap.size + 4)) := F4.out.below hb F4.out.lt; have FB : Hid (Below w.heap.size w w1) := FB.out.trans (hb.mono FB.out.size); clear hb; obtain ⟨x0_0, x0_1, x0_2, x0_3, x0_4, x0_5, x0_6, x0_7, x0_8, x0_9, x0_10, x0_11⟩ := F0.out; obtain ⟨x1_0, x1_1, x1_2, x1_3, x1_4, x1_5, y1_0, y1_1, y1_2, y1_3, y1_4, y1_5⟩ := F1.out; obtain ⟨x2_0, x2_1, x2_2, y2_0, y2_1, y2_2⟩ := F2.out; obtain ⟨x3_0, x3_1, x3_2, y3_0, y3_1, y3_2⟩ := F3.out; obtain ⟨x4_0, x4_1, x4_2, x4_3, x4_4, x4_5, x4_6, y4_0, y4_1, y4_2, y4_3, y4_4, y4_5, y4_6⟩ := F4.out)
    change bodyPost _ _ _ _ _ (put7 w1 (w.heap.size + 4) (Hs.pairK h s a b) (⟨⟨0, 0, 0⟩, ⟨0, 0, 0⟩⟩ : Sh))
    obtain ⟨Wf, hWf⟩ : ∃ Wf, put7 w1 (w.heap.size + 4) (Hs.pairK h s a b) (⟨⟨0, 0, 0⟩, ⟨0, 0, 0⟩⟩ : Sh) = Wf := ⟨_, rfl⟩
    have HRf : V7 Wf (w.heap.size + 4) (Hs.pairK h s a b) (⟨⟨0, 0, 0⟩, ⟨0, 0, 0⟩⟩ : Sh) := hWf ▸ F4.out.put _ _
    have HBf : Below w.heap.size w Wf := hWf ▸ below_put7 FB.out (by omega) _ _
    rw [hWf]
    clear hWf
    obtain ⟨d0, d1, d2, d3, d4, d5, d6⟩ := HRf
    try dsimp only at d0 d1 d2 d3 d4 d5 d6
    exact bodyPost_ret (v := .agg #[.int .i64 (Hs.pairK h s a b), .int .i64 0, .int .i64 0, .int .i64 0, .int .i64 0, .int .i64 0, .int .i64 0]) (by simp [results, Try.results14, go_sem, d0, d1, d2, d3, d4, d5, d6]) rfl ⟨rfl, HBf⟩
end Go.Proofs.Ytclfdfcakmgffaa
