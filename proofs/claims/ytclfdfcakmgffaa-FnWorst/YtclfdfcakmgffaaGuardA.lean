/-
  The model's guard: the worst that a command may do.
-/
import Derived.Test.YtclfdfcakmgffaaGdS
import Derived.Test.YtclfdfcakmgffaaFnd
import Derived.Test.YtclfdfcakmgffaaCellsR
import Derived.Test.YtclfdfcakmgffaaCellsX
namespace Go.Proofs.Ytclfdfcakmgffaa
open Go.RowKit Pl
set_option linter.unusedSimpArgs false
set_option linter.unusedVariables false

set_option maxRecDepth 20000 in
set_option maxHeartbeats 8000000 in
theorem l5High_any (h : Hs) (c : Cs) (x : Cm) (k : CarOk h c) (x1 : -h.pu ≤ x.push) (x2 : x.push ≤ h.pu) (w : World) :
    Calls Try.prog 26 #[.agg #[.int .i64 h.fl, .int .i64 h.gp, .int .i64 h.ln, .int .i64 h.rf, .int .i64 h.sp, .int .i64 h.pu, .int .i64 h.br, .int .i64 h.dr, .int .i64 h.lv, .int .i64 h.dO, .int .i64 h.ld, .int .i64 h.qu], .agg #[.int .i64 c.pos, .int .i64 c.vel, .int .i64 c.door], .agg #[.int .i64 x.push, .bool x.brk, .bool x.opn]] w fun e w' => e = .returned (.int .i64 (Hs.wh h c x)) ∧ Below w.heap.size w w' := by
  have o := k.ok
  have d1 := o.dr1; have d2 := o.dr2; have d3 := o.pu2; have d4 := o.sp2
  have ed : IntKind.i64.wrap (-h.dr) = -h.dr := IntWalk.i64_in _ (by omega)
  obtain ⟨g, hg⟩ : ∃ g, stepC h c x h.dr = g := ⟨_, rfl⟩
  have ev := step_env (x := x) (d := h.dr) k
  rw [hg] at ev
  have HE : Hid (Hs.wh h c x = h.hi g.pos g.vel) := by unfold Hs.wh; rw [hg]; exact rfl
  have HG : Hid (stepC h c x h.dr = g) := hg
  have HK : Hid (CarOk h c) := k
  have HO : Hid h.Ok := o
  clear o k hg
  have F0 : Hid (HAt (((w.alloc (.cells #[.int .i64 h.fl, .int .i64 h.gp, .int .i64 h.ln, .int .i64 h.rf, .int .i64 h.sp, .int .i64 h.pu, .int .i64 h.br, .int .i64 h.dr, .int .i64 h.lv, .int .i64 h.dO, .int .i64 h.ld, .int .i64 h.qu] 25)).alloc (.cells #[.int .i64 c.pos, .int .i64 c.vel, .int .i64 c.door] 27)).alloc (.cells #[.int .i64 x.push, .bool x.brk, .bool x.opn] 29)) w.heap.size h) := ((HAt.at_ w h _ _ (by simp)).alloc _).alloc _
  have F1 : Hid (CW (((w.alloc (.cells #[.int .i64 h.fl, .int .i64 h.gp, .int .i64 h.ln, .int .i64 h.rf, .int .i64 h.sp, .int .i64 h.pu, .int .i64 h.br, .int .i64 h.dr, .int .i64 h.lv, .int .i64 h.dO, .int .i64 h.ld, .int .i64 h.qu] 25)).alloc (.cells #[.int .i64 c.pos, .int .i64 c.vel, .int .i64 c.door] 27)).alloc (.cells #[.int .i64 x.push, .bool x.brk, .bool x.opn] 29)) (w.heap.size + 1) c) := (CW.at_ (w.alloc (.cells #[.int .i64 h.fl, .int .i64 h.gp, .int .i64 h.ln, .int .i64 h.rf, .int .i64 h.sp, .int .i64 h.pu, .int .i64 h.br, .int .i64 h.dr, .int .i64 h.lv, .int .i64 h.dO, .int .i64 h.ld, .int .i64 h.qu] 25)) c _ _ (by simp)).alloc _
  have F2 : Hid (XW (((w.alloc (.cells #[.int .i64 h.fl, .int .i64 h.gp, .int .i64 h.ln, .int .i64 h.rf, .int .i64 h.sp, .int .i64 h.pu, .int .i64 h.br, .int .i64 h.dr, .int .i64 h.lv, .int .i64 h.dO, .int .i64 h.ld, .int .i64 h.qu] 25)).alloc (.cells #[.int .i64 c.pos, .int .i64 c.vel, .int .i64 c.door] 27)).alloc (.cells #[.int .i64 x.push, .bool x.brk, .bool x.opn] 29)) (w.heap.size + 2) x) := XW.at_ ((w.alloc (.cells #[.int .i64 h.fl, .int .i64 h.gp, .int .i64 h.ln, .int .i64 h.rf, .int .i64 h.sp, .int .i64 h.pu, .int .i64 h.br, .int .i64 h.dr, .int .i64 h.lv, .int .i64 h.dO, .int .i64 h.ld, .int .i64 h.qu] 25)).alloc (.cells #[.int .i64 c.pos, .int .i64 c.vel, .int .i64 c.door] 27)) x _ _ (by simp)
  have FB : Hid (Below w.heap.size w (((w.alloc (.cells #[.int .i64 h.fl, .int .i64 h.gp, .int .i64 h.ln, .int .i64 h.rf, .int .i64 h.sp, .int .i64 h.pu, .int .i64 h.br, .int .i64 h.dr, .int .i64 h.lv, .int .i64 h.dO, .int .i64 h.ld, .int .i64 h.qu] 25)).alloc (.cells #[.int .i64 c.pos, .int .i64 c.vel, .int .i64 c.door] 27)).alloc (.cells #[.int .i64 x.push, .bool x.brk, .bool x.opn] 29))) := ((((Below.refl _ _).alloc (Nat.le_refl _) _).alloc (by simp <;> omega) _).alloc (by simp <;> omega) _)
  go_enter Try.func26, Try.ntmps26
  go_upto_region 2 with (go_at_call 59; refine (l3Step_any h c x h.dr HK.out x1 x2 (by omega) (by omega) g HG.out _).mono ?_; rintro e w1 ⟨rfl, hb⟩; have F0 : Hid (HAt w1 w.heap.size h) := F0.out.below hb F0.out.lt; have F1 : Hid (CW w1 (w.heap.size + 1) c) := F1.out.below hb F1.out.lt; have F2 : Hid (XW w1 (w.heap.size + 2) x) := F2.out.below hb F2.out.lt; have FB : Hid (Below w.heap.size w w1) := FB.out.trans (hb.mono FB.out.size); obtain ⟨x0_0, x0_1, x0_2, x0_3, x0_4, x0_5, x0_6, x0_7, x0_8, x0_9, x0_10, x0_11⟩ := F0.out; obtain ⟨x1_0, x1_1, x1_2, y1_0, y1_1, y1_2⟩ := F1.out; obtain ⟨x2_0, x2_1, x2_2, y2_0, y2_1, y2_2⟩ := F2.out; clear hb)
  obtain ⟨gb, hbb⟩ : ∃ gb, gb = w1.heap.size := ⟨_, rfl⟩
  obtain ⟨w2, hw2⟩ : ∃ w2, w2 = w1.alloc (.cells #[.int .i64 g.pos, .int .i64 g.vel, .int .i64 g.door] 27) := ⟨_, rfl⟩
  have lgbF0 := F0.out.lt
  rw [← hbb] at lgbF0
  have F0 : Hid (HAt w2 w.heap.size h) := by rw [hw2]; exact F0.out.alloc _
  have lgbF1 := F1.out.lt
  rw [← hbb] at lgbF1
  have F1 : Hid (CW w2 (w.heap.size + 1) c) := by rw [hw2]; exact F1.out.alloc _
  have lgbF2 := F2.out.lt
  rw [← hbb] at lgbF2
  have F2 : Hid (XW w2 (w.heap.size + 2) x) := by rw [hw2]; exact F2.out.alloc _
  have lgbB : w.heap.size ≤ gb := by rw [hbb]; exact FB.out.size
  have FB : Hid (Below w.heap.size w w2) := by rw [hw2]; exact FB.out.alloc FB.out.size _
  have F3 : Hid (CW w2 gb g) := by rw [hw2]; exact CW.at_ w1 g _ gb hbb
  rw [← hw2, ← hbb]
  clear hbb hw2
  obtain ⟨x0_0, x0_1, x0_2, x0_3, x0_4, x0_5, x0_6, x0_7, x0_8, x0_9, x0_10, x0_11⟩ := F0.out
  obtain ⟨x3_0, x3_1, x3_2, y3_0, y3_1, y3_2⟩ := F3.out
  go_wp2_with (go_at_call 52; refine (l3High_any h HO.out _ _ (by omega) (by omega) (by omega) (by omega) _).mono ?_; rintro e w3 ⟨rfl, hb⟩; have FB : Hid (Below w.heap.size w w3) := FB.out.trans (hb.mono FB.out.size))
  go_ret
  exact ⟨ret_int HE.out.symm, FB.out⟩
set_option maxRecDepth 20000 in
set_option maxHeartbeats 8000000 in
theorem l5Low_any (h : Hs) (c : Cs) (x : Cm) (k : CarOk h c) (x1 : -h.pu ≤ x.push) (x2 : x.push ≤ h.pu) (w : World) :
    Calls Try.prog 97 #[.agg #[.int .i64 h.fl, .int .i64 h.gp, .int .i64 h.ln, .int .i64 h.rf, .int .i64 h.sp, .int .i64 h.pu, .int .i64 h.br, .int .i64 h.dr, .int .i64 h.lv, .int .i64 h.dO, .int .i64 h.ld, .int .i64 h.qu], .agg #[.int .i64 c.pos, .int .i64 c.vel, .int .i64 c.door], .agg #[.int .i64 x.push, .bool x.brk, .bool x.opn]] w fun e w' => e = .returned (.int .i64 (Hs.wl h c x)) ∧ Below w.heap.size w w' := by
  have o := k.ok
  have d1 := o.dr1; have d2 := o.dr2; have d3 := o.pu2; have d4 := o.sp2
  have ed : IntKind.i64.wrap (-h.dr) = -h.dr := IntWalk.i64_in _ (by omega)
  obtain ⟨g, hg⟩ : ∃ g, stepC h c x (-h.dr) = g := ⟨_, rfl⟩
  have ev := step_env (x := x) (d := (-h.dr)) k
  rw [hg] at ev
  have HE : Hid (Hs.wl h c x = h.lo g.pos g.vel) := by unfold Hs.wl; rw [hg]; exact rfl
  have HG : Hid (stepC h c x (-h.dr) = g) := hg
  have HK : Hid (CarOk h c) := k
  have HO : Hid h.Ok := o
  clear o k hg
  have F0 : Hid (HAt (((w.alloc (.cells #[.int .i64 h.fl, .int .i64 h.gp, .int .i64 h.ln, .int .i64 h.rf, .int .i64 h.sp, .int .i64 h.pu, .int .i64 h.br, .int .i64 h.dr, .int .i64 h.lv, .int .i64 h.dO, .int .i64 h.ld, .int .i64 h.qu] 25)).alloc (.cells #[.int .i64 c.pos, .int .i64 c.vel, .int .i64 c.door] 27)).alloc (.cells #[.int .i64 x.push, .bool x.brk, .bool x.opn] 29)) w.heap.size h) := ((HAt.at_ w h _ _ (by simp)).alloc _).alloc _
  have F1 : Hid (CW (((w.alloc (.cells #[.int .i64 h.fl, .int .i64 h.gp, .int .i64 h.ln, .int .i64 h.rf, .int .i64 h.sp, .int .i64 h.pu, .int .i64 h.br, .int .i64 h.dr, .int .i64 h.lv, .int .i64 h.dO, .int .i64 h.ld, .int .i64 h.qu] 25)).alloc (.cells #[.int .i64 c.pos, .int .i64 c.vel, .int .i64 c.door] 27)).alloc (.cells #[.int .i64 x.push, .bool x.brk, .bool x.opn] 29)) (w.heap.size + 1) c) := (CW.at_ (w.alloc (.cells #[.int .i64 h.fl, .int .i64 h.gp, .int .i64 h.ln, .int .i64 h.rf, .int .i64 h.sp, .int .i64 h.pu, .int .i64 h.br, .int .i64 h.dr, .int .i64 h.lv, .int .i64 h.dO, .int .i64 h.ld, .int .i64 h.qu] 25)) c _ _ (by simp)).alloc _
  have F2 : Hid (XW (((w.alloc (.cells #[.int .i64 h.fl, .int .i64 h.gp, .int .i64 h.ln, .int .i64 h.rf, .int .i64 h.sp, .int .i64 h.pu, .int .i64 h.br, .int .i64 h.dr, .int .i64 h.lv, .int .i64 h.dO, .int .i64 h.ld, .int .i64 h.qu] 25)).alloc (.cells #[.int .i64 c.pos, .int .i64 c.vel, .int .i64 c.door] 27)).alloc (.cells #[.int .i64 x.push, .bool x.brk, .bool x.opn] 29)) (w.heap.size + 2) x) := XW.at_ ((w.alloc (.cells #[.int .i64 h.fl, .int .i64 h.gp, .int .i64 h.ln, .int .i64 h.rf, .int .i64 h.sp, .int .i64 h.pu, .int .i64 h.br, .int .i64 h.dr, .int .i64 h.lv, .int .i64 h.dO, .int .i64 h.ld, .int .i64 h.qu] 25)).alloc (.cells #[.int .i64 c.pos, .int .i64 c.vel, .int .i64 c.door] 27)) x _ _ (by simp)
  have FB : Hid (Below w.heap.size w (((w.alloc (.cells #[.int .i64 h.fl, .int .i64 h.gp, .int .i64 h.ln, .int .i64 h.rf, .int .i64 h.sp, .int .i64 h.pu, .int .i64 h.br, .int .i64 h.dr, .int .i64 h.lv, .int .i64 h.dO, .int .i64 h.ld, .int .i64 h.qu] 25)).alloc (.cells #[.int .i64 c.pos, .int .i64 c.vel, .int .i64 c.door] 27)).alloc (.cells #[.int .i64 x.push, .bool x.brk, .bool x.opn] 29))) := ((((Below.refl _ _).alloc (Nat.le_refl _) _).alloc (by simp <;> omega) _).alloc (by simp <;> omega) _)
  go_enter Try.func97, Try.ntmps97
  go_upto_region 2 with (go_at_call 59; refine (l3Step_any h c x (-h.dr) HK.out x1 x2 (by omega) (by omega) g HG.out _).mono ?_; rintro e w1 ⟨rfl, hb⟩; have F0 : Hid (HAt w1 w.heap.size h) := F0.out.below hb F0.out.lt; have F1 : Hid (CW w1 (w.heap.size + 1) c) := F1.out.below hb F1.out.lt; have F2 : Hid (XW w1 (w.heap.size + 2) x) := F2.out.below hb F2.out.lt; have FB : Hid (Below w.heap.size w w1) := FB.out.trans (hb.mono FB.out.size); obtain ⟨x0_0, x0_1, x0_2, x0_3, x0_4, x0_5, x0_6, x0_7, x0_8, x0_9, x0_10, x0_11⟩ := F0.out; obtain ⟨x1_0, x1_1, x1_2, y1_0, y1_1, y1_2⟩ := F1.out; obtain ⟨x2_0, x2_1, x2_2, y2_0, y2_1, y2_2⟩ := F2.out; clear hb)
  obtain ⟨gb, hbb⟩ : ∃ gb, gb = w1.heap.size := ⟨_, rfl⟩
  obtain ⟨w2, hw2⟩ : ∃ w2, w2 = w1.alloc (.cells #[.int .i64 g.pos, .int .i64 g.vel, .int .i64 g.door] 27) := ⟨_, rfl⟩
  have lgbF0 := F0.out.lt
  rw [← hbb] at lgbF0
  have F0 : Hid (HAt w2 w.heap.size h) := by rw [hw2]; exact F0.out.alloc _
  have lgbF1 := F1.out.lt
  rw [← hbb] at lgbF1
  have F1 : Hid (CW w2 (w.heap.size + 1) c) := by rw [hw2]; exact F1.out.alloc _
  have lgbF2 := F2.out.lt
  rw [← hbb] at lgbF2
  have F2 : Hid (XW w2 (w.heap.size + 2) x) := by rw [hw2]; exact F2.out.alloc _
  have lgbB : w.heap.size ≤ gb := by rw [hbb]; exact FB.out.size
  have FB : Hid (Below w.heap.size w w2) := by rw [hw2]; exact FB.out.alloc FB.out.size _
  have F3 : Hid (CW w2 gb g) := by rw [hw2]; exact CW.at_ w1 g _ gb hbb
  rw [← hw2, ← hbb]
  clear hbb hw2
  obtain ⟨x0_0, x0_1, x0_2, x0_3, x0_4, x0_5, x0_6, x0_7, x0_8, x0_9, x0_10, x0_11⟩ := F0.out
  obtain ⟨x3_0, x3_1, x3_2, y3_0, y3_1, y3_2⟩ := F3.out
  go_wp2_with (go_at_call 51; refine (l3Low_any h HO.out _ _ (by omega) (by omega) (by omega) (by omega) _).mono ?_; rintro e w3 ⟨rfl, hb⟩; have FB : Hid (Below w.heap.size w w3) := FB.out.trans (hb.mono FB.out.size))
  go_ret
  exact ⟨ret_int HE.out.symm, FB.out⟩
set_option maxRecDepth 20000 in
set_option maxHeartbeats 8000000 in
theorem l5Asked_any (h : Hs) (c : Cs) (x : Cm) (w : World) :
    Calls Try.prog 25 #[.agg #[.int .i64 h.fl, .int .i64 h.gp, .int .i64 h.ln, .int .i64 h.rf, .int .i64 h.sp, .int .i64 h.pu, .int .i64 h.br, .int .i64 h.dr, .int .i64 h.lv, .int .i64 h.dO, .int .i64 h.ld, .int .i64 h.qu], .agg #[.int .i64 c.pos, .int .i64 c.vel, .int .i64 c.door], .agg #[.int .i64 x.push, .bool x.brk, .bool x.opn]] w fun e w' => e = .returned (.int .i64 (Hs.asked h c x)) ∧ Below w.heap.size w w' := by
  unfold Hs.asked
  have F0 : Hid (HAt (((w.alloc (.cells #[.int .i64 h.fl, .int .i64 h.gp, .int .i64 h.ln, .int .i64 h.rf, .int .i64 h.sp, .int .i64 h.pu, .int .i64 h.br, .int .i64 h.dr, .int .i64 h.lv, .int .i64 h.dO, .int .i64 h.ld, .int .i64 h.qu] 25)).alloc (.cells #[.int .i64 c.pos, .int .i64 c.vel, .int .i64 c.door] 27)).alloc (.cells #[.int .i64 x.push, .bool x.brk, .bool x.opn] 29)) w.heap.size h) := ((HAt.at_ w h _ _ (by simp)).alloc _).alloc _
  have F1 : Hid (CW (((w.alloc (.cells #[.int .i64 h.fl, .int .i64 h.gp, .int .i64 h.ln, .int .i64 h.rf, .int .i64 h.sp, .int .i64 h.pu, .int .i64 h.br, .int .i64 h.dr, .int .i64 h.lv, .int .i64 h.dO, .int .i64 h.ld, .int .i64 h.qu] 25)).alloc (.cells #[.int .i64 c.pos, .int .i64 c.vel, .int .i64 c.door] 27)).alloc (.cells #[.int .i64 x.push, .bool x.brk, .bool x.opn] 29)) (w.heap.size + 1) c) := (CW.at_ (w.alloc (.cells #[.int .i64 h.fl, .int .i64 h.gp, .int .i64 h.ln, .int .i64 h.rf, .int .i64 h.sp, .int .i64 h.pu, .int .i64 h.br, .int .i64 h.dr, .int .i64 h.lv, .int .i64 h.dO, .int .i64 h.ld, .int .i64 h.qu] 25)) c _ _ (by simp)).alloc _
  have F2 : Hid (XW (((w.alloc (.cells #[.int .i64 h.fl, .int .i64 h.gp, .int .i64 h.ln, .int .i64 h.rf, .int .i64 h.sp, .int .i64 h.pu, .int .i64 h.br, .int .i64 h.dr, .int .i64 h.lv, .int .i64 h.dO, .int .i64 h.ld, .int .i64 h.qu] 25)).alloc (.cells #[.int .i64 c.pos, .int .i64 c.vel, .int .i64 c.door] 27)).alloc (.cells #[.int .i64 x.push, .bool x.brk, .bool x.opn] 29)) (w.heap.size + 2) x) := XW.at_ ((w.alloc (.cells #[.int .i64 h.fl, .int .i64 h.gp, .int .i64 h.ln, .int .i64 h.rf, .int .i64 h.sp, .int .i64 h.pu, .int .i64 h.br, .int .i64 h.dr, .int .i64 h.lv, .int .i64 h.dO, .int .i64 h.ld, .int .i64 h.qu] 25)).alloc (.cells #[.int .i64 c.pos, .int .i64 c.vel, .int .i64 c.door] 27)) x _ _ (by simp)
  have FB : Hid (Below w.heap.size w (((w.alloc (.cells #[.int .i64 h.fl, .int .i64 h.gp, .int .i64 h.ln, .int .i64 h.rf, .int .i64 h.sp, .int .i64 h.pu, .int .i64 h.br, .int .i64 h.dr, .int .i64 h.lv, .int .i64 h.dO, .int .i64 h.ld, .int .i64 h.qu] 25)).alloc (.cells #[.int .i64 c.pos, .int .i64 c.vel, .int .i64 c.door] 27)).alloc (.cells #[.int .i64 x.push, .bool x.brk, .bool x.opn] 29))) := ((((Below.refl _ _).alloc (Nat.le_refl _) _).alloc (by simp <;> omega) _).alloc (by simp <;> omega) _)
  by_cases hk : h.car c = 0
  · rw [if_pos hk]
    go_enter Try.func25, Try.ntmps25
    go_wp2_with (first | (go_at_call 50; refine (specCarFault_any h c _).mono ?_; rw [hk]; rintro e w1 ⟨rfl, hb⟩; have F0 : Hid (HAt w1 w.heap.size h) := F0.out.below hb F0.out.lt; have F1 : Hid (CW w1 (w.heap.size + 1) c) := F1.out.below hb F1.out.lt; have F2 : Hid (XW w1 (w.heap.size + 2) x) := F2.out.below hb F2.out.lt; have FB : Hid (Below w.heap.size w w1) := FB.out.trans (hb.mono FB.out.size); obtain ⟨x0_0, x0_1, x0_2, x0_3, x0_4, x0_5, x0_6, x0_7, x0_8, x0_9, x0_10, x0_11⟩ := F0.out; obtain ⟨x1_0, x1_1, x1_2, y1_0, y1_1, y1_2⟩ := F1.out; obtain ⟨x2_0, x2_1, x2_2, y2_0, y2_1, y2_2⟩ := F2.out; clear hb) | (go_at_call 58; refine (specCommandFault_any h x _).mono ?_; rintro e w2 ⟨rfl, hb⟩; have F0 : Hid (HAt w2 w.heap.size h) := F0.out.below hb F0.out.lt; have F1 : Hid (CW w2 (w.heap.size + 1) c) := F1.out.below hb F1.out.lt; have F2 : Hid (XW w2 (w.heap.size + 2) x) := F2.out.below hb F2.out.lt; have FB : Hid (Below w.heap.size w w2) := FB.out.trans (hb.mono FB.out.size); obtain ⟨x0_0, x0_1, x0_2, x0_3, x0_4, x0_5, x0_6, x0_7, x0_8, x0_9, x0_10, x0_11⟩ := F0.out; obtain ⟨x1_0, x1_1, x1_2, y1_0, y1_1, y1_2⟩ := F1.out; obtain ⟨x2_0, x2_1, x2_2, y2_0, y2_1, y2_2⟩ := F2.out; clear hb))
    go_ret
    exact ⟨rfl, FB.out⟩
  · rw [if_neg hk]
    have hn : (h.car c != 0) = true := by simpa using hk
    clear hk
    go_enter Try.func25, Try.ntmps25
    go_wp2_with (go_at_call 50; refine (specCarFault_any h c _).mono ?_; rintro e w1 ⟨rfl, hb⟩; have F0 : Hid (HAt w1 w.heap.size h) := F0.out.below hb F0.out.lt; have F1 : Hid (CW w1 (w.heap.size + 1) c) := F1.out.below hb F1.out.lt; have F2 : Hid (XW w1 (w.heap.size + 2) x) := F2.out.below hb F2.out.lt; have FB : Hid (Below w.heap.size w w1) := FB.out.trans (hb.mono FB.out.size); obtain ⟨x0_0, x0_1, x0_2, x0_3, x0_4, x0_5, x0_6, x0_7, x0_8, x0_9, x0_10, x0_11⟩ := F0.out; obtain ⟨x1_0, x1_1, x1_2, y1_0, y1_1, y1_2⟩ := F1.out; obtain ⟨x2_0, x2_1, x2_2, y2_0, y2_1, y2_2⟩ := F2.out; clear hb)
    go_ret
    exact ⟨rfl, FB.out⟩
theorem asked_zero {h : Hs} {c : Cs} {x : Cm} (e : Hs.asked h c x = 0) : h.car c = 0 ∧ h.cmd x = 0 := by
  unfold Hs.asked at e
  split at e
  · exact ⟨by assumption, e⟩
  · exact absurd e (by assumption)
def Hs.whV (h : Hs) (c : Cs) (x : Cm) : Int := if Hs.asked h c x = 0 then Hs.wh h c x else 0
set_option maxRecDepth 20000 in
set_option maxHeartbeats 8000000 in
theorem specWorstHigh_any (h : Hs) (c : Cs) (x : Cm) (w : World) :
    Calls Try.prog 10 #[.agg #[.int .i64 h.fl, .int .i64 h.gp, .int .i64 h.ln, .int .i64 h.rf, .int .i64 h.sp, .int .i64 h.pu, .int .i64 h.br, .int .i64 h.dr, .int .i64 h.lv, .int .i64 h.dO, .int .i64 h.ld, .int .i64 h.qu], .agg #[.int .i64 c.pos, .int .i64 c.vel, .int .i64 c.door], .agg #[.int .i64 x.push, .bool x.brk, .bool x.opn]] w (isAns w (Hs.asked h c x) (Hs.whV h c x)) := by
  unfold Hs.whV
  have F0 : Hid (HAt ((((w.alloc (.cells #[.int .i64 h.fl, .int .i64 h.gp, .int .i64 h.ln, .int .i64 h.rf, .int .i64 h.sp, .int .i64 h.pu, .int .i64 h.br, .int .i64 h.dr, .int .i64 h.lv, .int .i64 h.dO, .int .i64 h.ld, .int .i64 h.qu] 25)).alloc (.cells #[.int .i64 c.pos, .int .i64 c.vel, .int .i64 c.door] 27)).alloc (.cells #[.int .i64 x.push, .bool x.brk, .bool x.opn] 29)).alloc (.cells #[.int .i64 0, .int .i64 0] 33)) w.heap.size h) := (((HAt.at_ w h _ _ (by simp)).alloc _).alloc _).alloc _
  have F1 : Hid (CW ((((w.alloc (.cells #[.int .i64 h.fl, .int .i64 h.gp, .int .i64 h.ln, .int .i64 h.rf, .int .i64 h.sp, .int .i64 h.pu, .int .i64 h.br, .int .i64 h.dr, .int .i64 h.lv, .int .i64 h.dO, .int .i64 h.ld, .int .i64 h.qu] 25)).alloc (.cells #[.int .i64 c.pos, .int .i64 c.vel, .int .i64 c.door] 27)).alloc (.cells #[.int .i64 x.push, .bool x.brk, .bool x.opn] 29)).alloc (.cells #[.int .i64 0, .int .i64 0] 33)) (w.heap.size + 1) c) := ((CW.at_ (w.alloc (.cells #[.int .i64 h.fl, .int .i64 h.gp, .int .i64 h.ln, .int .i64 h.rf, .int .i64 h.sp, .int .i64 h.pu, .int .i64 h.br, .int .i64 h.dr, .int .i64 h.lv, .int .i64 h.dO, .int .i64 h.ld, .int .i64 h.qu] 25)) c _ _ (by simp)).alloc _).alloc _
  have F2 : Hid (XW ((((w.alloc (.cells #[.int .i64 h.fl, .int .i64 h.gp, .int .i64 h.ln, .int .i64 h.rf, .int .i64 h.sp, .int .i64 h.pu, .int .i64 h.br, .int .i64 h.dr, .int .i64 h.lv, .int .i64 h.dO, .int .i64 h.ld, .int .i64 h.qu] 25)).alloc (.cells #[.int .i64 c.pos, .int .i64 c.vel, .int .i64 c.door] 27)).alloc (.cells #[.int .i64 x.push, .bool x.brk, .bool x.opn] 29)).alloc (.cells #[.int .i64 0, .int .i64 0] 33)) (w.heap.size + 2) x) := (XW.at_ ((w.alloc (.cells #[.int .i64 h.fl, .int .i64 h.gp, .int .i64 h.ln, .int .i64 h.rf, .int .i64 h.sp, .int .i64 h.pu, .int .i64 h.br, .int .i64 h.dr, .int .i64 h.lv, .int .i64 h.dO, .int .i64 h.ld, .int .i64 h.qu] 25)).alloc (.cells #[.int .i64 c.pos, .int .i64 c.vel, .int .i64 c.door] 27)) x _ _ (by simp)).alloc _
  have F3 : Hid (R2 ((((w.alloc (.cells #[.int .i64 h.fl, .int .i64 h.gp, .int .i64 h.ln, .int .i64 h.rf, .int .i64 h.sp, .int .i64 h.pu, .int .i64 h.br, .int .i64 h.dr, .int .i64 h.lv, .int .i64 h.dO, .int .i64 h.ld, .int .i64 h.qu] 25)).alloc (.cells #[.int .i64 c.pos, .int .i64 c.vel, .int .i64 c.door] 27)).alloc (.cells #[.int .i64 x.push, .bool x.brk, .bool x.opn] 29)).alloc (.cells #[.int .i64 0, .int .i64 0] 33)) (w.heap.size + 3)) := R2.at_ (((w.alloc (.cells #[.int .i64 h.fl, .int .i64 h.gp, .int .i64 h.ln, .int .i64 h.rf, .int .i64 h.sp, .int .i64 h.pu, .int .i64 h.br, .int .i64 h.dr, .int .i64 h.lv, .int .i64 h.dO, .int .i64 h.ld, .int .i64 h.qu] 25)).alloc (.cells #[.int .i64 c.pos, .int .i64 c.vel, .int .i64 c.door] 27)).alloc (.cells #[.int .i64 x.push, .bool x.brk, .bool x.opn] 29)) _ _ (by simp)
  have FB : Hid (Below w.heap.size w ((((w.alloc (.cells #[.int .i64 h.fl, .int .i64 h.gp, .int .i64 h.ln, .int .i64 h.rf, .int .i64 h.sp, .int .i64 h.pu, .int .i64 h.br, .int .i64 h.dr, .int .i64 h.lv, .int .i64 h.dO, .int .i64 h.ld, .int .i64 h.qu] 25)).alloc (.cells #[.int .i64 c.pos, .int .i64 c.vel, .int .i64 c.door] 27)).alloc (.cells #[.int .i64 x.push, .bool x.brk, .bool x.opn] 29)).alloc (.cells #[.int .i64 0, .int .i64 0] 33))) := (((((Below.refl _ _).alloc (Nat.le_refl _) _).alloc (by simp <;> omega) _).alloc (by simp <;> omega) _).alloc (by simp <;> omega) _)
  by_cases hk : Hs.asked h c x = 0
  · rw [if_pos hk, hk]
    obtain ⟨k1, k2⟩ := asked_zero hk
    have k := Hs.car_zero k1
    have HK : Hid (CarOk h c) := k
    have HP : Hid (-h.pu ≤ x.push ∧ x.push ≤ h.pu) := cmd_push k.hf k2
    clear k k1 k2
    go_enter Try.func10, Try.ntmps10
    go_wp2_with (first | (go_at_call 25; refine (l5Asked_any h c x _).mono ?_; rw [hk]; rintro e w1 ⟨rfl, hb⟩; have F0 : Hid (HAt w1 w.heap.size h) := F0.out.below hb F0.out.lt; have F1 : Hid (CW w1 (w.heap.size + 1) c) := F1.out.below hb F1.out.lt; have F2 : Hid (XW w1 (w.heap.size + 2) x) := F2.out.below hb F2.out.lt; have F3 : Hid (R2 w1 (w.heap.size + 3)) := F3.out.below hb F3.out.lt; have FB : Hid (Below w.heap.size w w1) := FB.out.trans (hb.mono FB.out.size); obtain ⟨x0_0, x0_1, x0_2, x0_3, x0_4, x0_5, x0_6, x0_7, x0_8, x0_9, x0_10, x0_11⟩ := F0.out; obtain ⟨x1_0, x1_1, x1_2, y1_0, y1_1, y1_2⟩ := F1.out; obtain ⟨x2_0, x2_1, x2_2, y2_0, y2_1, y2_2⟩ := F2.out; obtain ⟨x3_0, x3_1, y3_0, y3_1⟩ := F3.out; clear hb) | (go_at_call 26; refine (l5High_any h c x HK.out HP.out.1 HP.out.2 _).mono ?_; rintro e w2 ⟨rfl, hb⟩; have F0 : Hid (HAt w2 w.heap.size h) := F0.out.below hb F0.out.lt; have F1 : Hid (CW w2 (w.heap.size + 1) c) := F1.out.below hb F1.out.lt; have F2 : Hid (XW w2 (w.heap.size + 2) x) := F2.out.below hb F2.out.lt; have F3 : Hid (R2 w2 (w.heap.size + 3)) := F3.out.below hb F3.out.lt; have FB : Hid (Below w.heap.size w w2) := FB.out.trans (hb.mono FB.out.size); obtain ⟨x0_0, x0_1, x0_2, x0_3, x0_4, x0_5, x0_6, x0_7, x0_8, x0_9, x0_10, x0_11⟩ := F0.out; obtain ⟨x1_0, x1_1, x1_2, y1_0, y1_1, y1_2⟩ := F1.out; obtain ⟨x2_0, x2_1, x2_2, y2_0, y2_1, y2_2⟩ := F2.out; obtain ⟨x3_0, x3_1, y3_0, y3_1⟩ := F3.out; clear hb))
    exact bodyPost_ret (v := .agg #[.int .i64 0, .int .i64 (Hs.wh h c x)]) (by simp [results, Try.results10, go_sem, x3_0, x3_1]) rfl ⟨rfl, by repeat (first | exact FB.out | (refine Below.setCell ?_ (by simp <;> omega) _))⟩
  · rw [if_neg hk]
    have hn : (Hs.asked h c x != 0) = true := by simpa using hk
    clear hk
    go_enter Try.func10, Try.ntmps10
    go_wp2_with (go_at_call 25; refine (l5Asked_any h c x _).mono ?_; rintro e w1 ⟨rfl, hb⟩; have F0 : Hid (HAt w1 w.heap.size h) := F0.out.below hb F0.out.lt; have F1 : Hid (CW w1 (w.heap.size + 1) c) := F1.out.below hb F1.out.lt; have F2 : Hid (XW w1 (w.heap.size + 2) x) := F2.out.below hb F2.out.lt; have F3 : Hid (R2 w1 (w.heap.size + 3)) := F3.out.below hb F3.out.lt; have FB : Hid (Below w.heap.size w w1) := FB.out.trans (hb.mono FB.out.size); obtain ⟨x0_0, x0_1, x0_2, x0_3, x0_4, x0_5, x0_6, x0_7, x0_8, x0_9, x0_10, x0_11⟩ := F0.out; obtain ⟨x1_0, x1_1, x1_2, y1_0, y1_1, y1_2⟩ := F1.out; obtain ⟨x2_0, x2_1, x2_2, y2_0, y2_1, y2_2⟩ := F2.out; obtain ⟨x3_0, x3_1, y3_0, y3_1⟩ := F3.out; clear hb)
    exact bodyPost_ret (v := .agg #[.int .i64 (Hs.asked h c x), .int .i64 0]) (by simp [results, Try.results10, go_sem, x3_0, x3_1]) rfl ⟨rfl, by repeat (first | exact FB.out | (refine Below.setCell ?_ (by simp <;> omega) _))⟩
def Hs.wlV (h : Hs) (c : Cs) (x : Cm) : Int := if Hs.asked h c x = 0 then Hs.wl h c x else 0
end Go.Proofs.Ytclfdfcakmgffaa
