/-
  The model's RunTo.
-/
import Derived.Test.YtiahefgmenoflaaProfC
import Derived.Test.YtiahefgmenoflaaCellsR
namespace Go.Proofs.Ytiahefgmenoflaa
open Go.RowKit Pl
set_option linter.unusedSimpArgs false
set_option linter.unusedVariables false

/-- What a run answers: its code, its ticks, the car then; so many ticks are left at most. -/
def Hs.runK (h : Hs) (f t : Int) : Nat → Cs → Int → Int × Int × Cs
  | 0, c, n => (0, n, c)
  | k + 1, c, n => if n < t ∧ Hs.reachB h c f = false then (if h.carC (stepC h c (Hs.forC h c f) 0) = 0 then Hs.runK h f t k (stepC h c (Hs.forC h c f) 0) (n + 1) else (3, 0, ⟨0, 0, 0⟩)) else (0, n, c)
theorem runK_stop {h : Hs} {f t : Int} {k : Nat} {c : Cs} {n : Int} (e : ¬ (n < t ∧ Hs.reachB h c f = false)) : Hs.runK h f t k c n = (0, n, c) := by
  cases k with
  | zero => rfl
  | succ k => unfold Hs.runK; rw [if_neg e]
theorem runK_go {h : Hs} {f t : Int} {k : Nat} {c : Cs} {n : Int} (e : n < t ∧ Hs.reachB h c f = false) (hc : h.carC (stepC h c (Hs.forC h c f) 0) = 0) : Hs.runK h f t (k + 1) c n = Hs.runK h f t k (stepC h c (Hs.forC h c f) 0) (n + 1) := by
  rw [Hs.runK, if_pos e, if_pos hc]
theorem runK_bad {h : Hs} {f t : Int} {k : Nat} {c : Cs} {n : Int} (e : n < t ∧ Hs.reachB h c f = false) (hc : ¬ h.carC (stepC h c (Hs.forC h c f) 0) = 0) : Hs.runK h f t (k + 1) c n = (3, 0, ⟨0, 0, 0⟩) := by
  rw [Hs.runK, if_pos e, if_neg hc]
def isRun (w : World) (k n : Int) (g : Cs) (e : Ending) (w' : World) : Prop := e = .returned (.agg #[.int .i64 k, .int .i64 n, .int .i64 g.pos, .int .i64 g.vel, .int .i64 g.door]) ∧ Below w.heap.size w w'
theorem forC_push {h : Hs} (o : h.Ok) (c : Cs) (f : Int) : -h.pu ≤ (Hs.forC h c f).push ∧ (Hs.forC h c f).push ≤ h.pu := by
  have p1 := o.pu1
  have a := Hs.upP_bd o (-c.vel) (-(h.level f - c.pos))
  have b := Hs.upP_bd o c.vel (h.level f - c.pos)
  unfold Hs.forC
  split
  · dsimp only; omega
  · split <;> (dsimp only; omega)
theorem step_door {h : Hs} {c : Cs} {f : Int} (dz : c.door = 0) : (stepC h c (Hs.forC h c f) 0).door = 0 := by
  have e : (Hs.forC h c f).opn = false := by unfold Hs.forC; split; rfl; split <;> rfl
  unfold stepC
  rw [e, if_neg (by simp [dz])]
  split <;> exact dz
set_option maxRecDepth 20000 in
set_option maxHeartbeats 4000000 in
theorem specRunTo_no (h : Hs) (c : Cs) (f t : Int) (hk : h.car c ≠ 0) (w : World) :
    Calls Try.prog 27 #[.agg #[.int .i64 h.fl, .int .i64 h.gp, .int .i64 h.ln, .int .i64 h.rf, .int .i64 h.sp, .int .i64 h.pu, .int .i64 h.br, .int .i64 h.dr, .int .i64 h.lv, .int .i64 h.dO, .int .i64 h.ld, .int .i64 h.qu], .agg #[.int .i64 c.pos, .int .i64 c.vel, .int .i64 c.door], .int .i64 f, .int .i64 t] w (isRun w (h.car c) 0 ⟨0, 0, 0⟩) := by
  have hn : (h.car c != 0) = true := by simpa using hk
  clear hk
  have F0 : Hid (HAt (((w.alloc (.cells #[.int .i64 h.fl, .int .i64 h.gp, .int .i64 h.ln, .int .i64 h.rf, .int .i64 h.sp, .int .i64 h.pu, .int .i64 h.br, .int .i64 h.dr, .int .i64 h.lv, .int .i64 h.dO, .int .i64 h.ld, .int .i64 h.qu] 25)).alloc (.cells #[.int .i64 c.pos, .int .i64 c.vel, .int .i64 c.door] 27)).alloc (.cells #[.int .i64 0, .int .i64 0, .int .i64 0, .int .i64 0, .int .i64 0] 65)) w.heap.size h) := ((HAt.at_ w h _ _ (by simp)).alloc _).alloc _
  have F1 : Hid (CW (((w.alloc (.cells #[.int .i64 h.fl, .int .i64 h.gp, .int .i64 h.ln, .int .i64 h.rf, .int .i64 h.sp, .int .i64 h.pu, .int .i64 h.br, .int .i64 h.dr, .int .i64 h.lv, .int .i64 h.dO, .int .i64 h.ld, .int .i64 h.qu] 25)).alloc (.cells #[.int .i64 c.pos, .int .i64 c.vel, .int .i64 c.door] 27)).alloc (.cells #[.int .i64 0, .int .i64 0, .int .i64 0, .int .i64 0, .int .i64 0] 65)) (w.heap.size + 1) c) := (CW.at_ _ c _ _ (by simp)).alloc _
  have F2 : Hid (RRun (((w.alloc (.cells #[.int .i64 h.fl, .int .i64 h.gp, .int .i64 h.ln, .int .i64 h.rf, .int .i64 h.sp, .int .i64 h.pu, .int .i64 h.br, .int .i64 h.dr, .int .i64 h.lv, .int .i64 h.dO, .int .i64 h.ld, .int .i64 h.qu] 25)).alloc (.cells #[.int .i64 c.pos, .int .i64 c.vel, .int .i64 c.door] 27)).alloc (.cells #[.int .i64 0, .int .i64 0, .int .i64 0, .int .i64 0, .int .i64 0] 65)) (w.heap.size + 2)) := RRun.at_ _ _ _ (by simp)
  have FB : Hid (Below w.heap.size w (((w.alloc (.cells #[.int .i64 h.fl, .int .i64 h.gp, .int .i64 h.ln, .int .i64 h.rf, .int .i64 h.sp, .int .i64 h.pu, .int .i64 h.br, .int .i64 h.dr, .int .i64 h.lv, .int .i64 h.dO, .int .i64 h.ld, .int .i64 h.qu] 25)).alloc (.cells #[.int .i64 c.pos, .int .i64 c.vel, .int .i64 c.door] 27)).alloc (.cells #[.int .i64 0, .int .i64 0, .int .i64 0, .int .i64 0, .int .i64 0] 65))) := ((((Below.refl _ _).alloc (Nat.le_refl _) _).alloc (by simp) _).alloc (by simp; omega) _)
  go_enter Try.func27, Try.ntmps27
  go_wp2_with (go_at_call 12; refine (specCarFault_any h c _).mono ?_; rintro e w1 ⟨rfl, hb⟩; have F0 : Hid (HAt w1 w.heap.size h) := F0.out.below hb F0.out.lt; have F1 : Hid (CW w1 (w.heap.size + 1) c) := F1.out.below hb F1.out.lt; have F2 : Hid (RRun w1 (w.heap.size + 2)) := F2.out.below hb F2.out.lt; have FB : Hid (Below w.heap.size w w1) := FB.out.trans (hb.mono FB.out.size); clear hb; obtain ⟨x0_0, x0_1, x0_2, x0_3, x0_4, x0_5, x0_6, x0_7, x0_8, x0_9, x0_10, x0_11⟩ := F0.out; obtain ⟨x1_0, x1_1, x1_2, y1_0, y1_1, y1_2⟩ := F1.out; obtain ⟨x2_0, x2_1, x2_2, x2_3, x2_4, y2_0, y2_1, y2_2, y2_3, y2_4⟩ := F2.out)
  exact bodyPost_ret (v := .agg #[.int .i64 (h.car c), .int .i64 0, .int .i64 0, .int .i64 0, .int .i64 0]) (by simp [results, Try.results27, go_sem, x2_0, x2_1, x2_2, x2_3, x2_4]) rfl ⟨rfl, by repeat (first | exact FB.out | (refine Below.setCell ?_ (by simp <;> omega) _))⟩
set_option maxRecDepth 20000 in
set_option maxHeartbeats 4000000 in
theorem specRunTo_f (h : Hs) (c : Cs) (f t : Int) (hk : h.car c = 0) (hi : inB f (-1) h.fl = false) (w : World) :
    Calls Try.prog 27 #[.agg #[.int .i64 h.fl, .int .i64 h.gp, .int .i64 h.ln, .int .i64 h.rf, .int .i64 h.sp, .int .i64 h.pu, .int .i64 h.br, .int .i64 h.dr, .int .i64 h.lv, .int .i64 h.dO, .int .i64 h.ld, .int .i64 h.qu], .agg #[.int .i64 c.pos, .int .i64 c.vel, .int .i64 c.door], .int .i64 f, .int .i64 t] w (isRun w 3 0 ⟨0, 0, 0⟩) := by
  skip
  have F0 : Hid (HAt (((w.alloc (.cells #[.int .i64 h.fl, .int .i64 h.gp, .int .i64 h.ln, .int .i64 h.rf, .int .i64 h.sp, .int .i64 h.pu, .int .i64 h.br, .int .i64 h.dr, .int .i64 h.lv, .int .i64 h.dO, .int .i64 h.ld, .int .i64 h.qu] 25)).alloc (.cells #[.int .i64 c.pos, .int .i64 c.vel, .int .i64 c.door] 27)).alloc (.cells #[.int .i64 0, .int .i64 0, .int .i64 0, .int .i64 0, .int .i64 0] 65)) w.heap.size h) := ((HAt.at_ w h _ _ (by simp)).alloc _).alloc _
  have F1 : Hid (CW (((w.alloc (.cells #[.int .i64 h.fl, .int .i64 h.gp, .int .i64 h.ln, .int .i64 h.rf, .int .i64 h.sp, .int .i64 h.pu, .int .i64 h.br, .int .i64 h.dr, .int .i64 h.lv, .int .i64 h.dO, .int .i64 h.ld, .int .i64 h.qu] 25)).alloc (.cells #[.int .i64 c.pos, .int .i64 c.vel, .int .i64 c.door] 27)).alloc (.cells #[.int .i64 0, .int .i64 0, .int .i64 0, .int .i64 0, .int .i64 0] 65)) (w.heap.size + 1) c) := (CW.at_ _ c _ _ (by simp)).alloc _
  have F2 : Hid (RRun (((w.alloc (.cells #[.int .i64 h.fl, .int .i64 h.gp, .int .i64 h.ln, .int .i64 h.rf, .int .i64 h.sp, .int .i64 h.pu, .int .i64 h.br, .int .i64 h.dr, .int .i64 h.lv, .int .i64 h.dO, .int .i64 h.ld, .int .i64 h.qu] 25)).alloc (.cells #[.int .i64 c.pos, .int .i64 c.vel, .int .i64 c.door] 27)).alloc (.cells #[.int .i64 0, .int .i64 0, .int .i64 0, .int .i64 0, .int .i64 0] 65)) (w.heap.size + 2)) := RRun.at_ _ _ _ (by simp)
  have FB : Hid (Below w.heap.size w (((w.alloc (.cells #[.int .i64 h.fl, .int .i64 h.gp, .int .i64 h.ln, .int .i64 h.rf, .int .i64 h.sp, .int .i64 h.pu, .int .i64 h.br, .int .i64 h.dr, .int .i64 h.lv, .int .i64 h.dO, .int .i64 h.ld, .int .i64 h.qu] 25)).alloc (.cells #[.int .i64 c.pos, .int .i64 c.vel, .int .i64 c.door] 27)).alloc (.cells #[.int .i64 0, .int .i64 0, .int .i64 0, .int .i64 0, .int .i64 0] 65))) := ((((Below.refl _ _).alloc (Nat.le_refl _) _).alloc (by simp) _).alloc (by simp; omega) _)
  go_enter Try.func27, Try.ntmps27
  go_wp2_with (first | (go_at_call 12; refine (specCarFault_any h c _).mono ?_; rw [hk]; rintro e w1 ⟨rfl, hb⟩; have F0 : Hid (HAt w1 w.heap.size h) := F0.out.below hb F0.out.lt; have F1 : Hid (CW w1 (w.heap.size + 1) c) := F1.out.below hb F1.out.lt; have F2 : Hid (RRun w1 (w.heap.size + 2)) := F2.out.below hb F2.out.lt; have FB : Hid (Below w.heap.size w w1) := FB.out.trans (hb.mono FB.out.size); clear hb; obtain ⟨x0_0, x0_1, x0_2, x0_3, x0_4, x0_5, x0_6, x0_7, x0_8, x0_9, x0_10, x0_11⟩ := F0.out; obtain ⟨x1_0, x1_1, x1_2, y1_0, y1_1, y1_2⟩ := F1.out; obtain ⟨x2_0, x2_1, x2_2, x2_3, x2_4, y2_0, y2_1, y2_2, y2_3, y2_4⟩ := F2.out) | (go_at_call 50; refine (l1In_any _ _ _ _).mono ?_; rintro e w' ⟨rfl, hw⟩; obtain rfl := hw.symm; clear hw))
  exact bodyPost_ret (v := .agg #[.int .i64 3, .int .i64 0, .int .i64 0, .int .i64 0, .int .i64 0]) (by simp [results, Try.results27, go_sem, x2_0, x2_1, x2_2, x2_3, x2_4]) rfl ⟨rfl, by repeat (first | exact FB.out | (refine Below.setCell ?_ (by simp <;> omega) _))⟩
set_option maxRecDepth 20000 in
set_option maxHeartbeats 4000000 in
theorem specRunTo_t (h : Hs) (c : Cs) (f t : Int) (hk : h.car c = 0) (hi : inB f (-1) h.fl = true) (ht : inB t 0 3000 = false) (w : World) :
    Calls Try.prog 27 #[.agg #[.int .i64 h.fl, .int .i64 h.gp, .int .i64 h.ln, .int .i64 h.rf, .int .i64 h.sp, .int .i64 h.pu, .int .i64 h.br, .int .i64 h.dr, .int .i64 h.lv, .int .i64 h.dO, .int .i64 h.ld, .int .i64 h.qu], .agg #[.int .i64 c.pos, .int .i64 c.vel, .int .i64 c.door], .int .i64 f, .int .i64 t] w (isRun w 3 0 ⟨0, 0, 0⟩) := by
  skip
  have F0 : Hid (HAt (((w.alloc (.cells #[.int .i64 h.fl, .int .i64 h.gp, .int .i64 h.ln, .int .i64 h.rf, .int .i64 h.sp, .int .i64 h.pu, .int .i64 h.br, .int .i64 h.dr, .int .i64 h.lv, .int .i64 h.dO, .int .i64 h.ld, .int .i64 h.qu] 25)).alloc (.cells #[.int .i64 c.pos, .int .i64 c.vel, .int .i64 c.door] 27)).alloc (.cells #[.int .i64 0, .int .i64 0, .int .i64 0, .int .i64 0, .int .i64 0] 65)) w.heap.size h) := ((HAt.at_ w h _ _ (by simp)).alloc _).alloc _
  have F1 : Hid (CW (((w.alloc (.cells #[.int .i64 h.fl, .int .i64 h.gp, .int .i64 h.ln, .int .i64 h.rf, .int .i64 h.sp, .int .i64 h.pu, .int .i64 h.br, .int .i64 h.dr, .int .i64 h.lv, .int .i64 h.dO, .int .i64 h.ld, .int .i64 h.qu] 25)).alloc (.cells #[.int .i64 c.pos, .int .i64 c.vel, .int .i64 c.door] 27)).alloc (.cells #[.int .i64 0, .int .i64 0, .int .i64 0, .int .i64 0, .int .i64 0] 65)) (w.heap.size + 1) c) := (CW.at_ _ c _ _ (by simp)).alloc _
  have F2 : Hid (RRun (((w.alloc (.cells #[.int .i64 h.fl, .int .i64 h.gp, .int .i64 h.ln, .int .i64 h.rf, .int .i64 h.sp, .int .i64 h.pu, .int .i64 h.br, .int .i64 h.dr, .int .i64 h.lv, .int .i64 h.dO, .int .i64 h.ld, .int .i64 h.qu] 25)).alloc (.cells #[.int .i64 c.pos, .int .i64 c.vel, .int .i64 c.door] 27)).alloc (.cells #[.int .i64 0, .int .i64 0, .int .i64 0, .int .i64 0, .int .i64 0] 65)) (w.heap.size + 2)) := RRun.at_ _ _ _ (by simp)
  have FB : Hid (Below w.heap.size w (((w.alloc (.cells #[.int .i64 h.fl, .int .i64 h.gp, .int .i64 h.ln, .int .i64 h.rf, .int .i64 h.sp, .int .i64 h.pu, .int .i64 h.br, .int .i64 h.dr, .int .i64 h.lv, .int .i64 h.dO, .int .i64 h.ld, .int .i64 h.qu] 25)).alloc (.cells #[.int .i64 c.pos, .int .i64 c.vel, .int .i64 c.door] 27)).alloc (.cells #[.int .i64 0, .int .i64 0, .int .i64 0, .int .i64 0, .int .i64 0] 65))) := ((((Below.refl _ _).alloc (Nat.le_refl _) _).alloc (by simp) _).alloc (by simp; omega) _)
  go_enter Try.func27, Try.ntmps27
  go_wp2_with (first | (go_at_call 12; refine (specCarFault_any h c _).mono ?_; rw [hk]; rintro e w1 ⟨rfl, hb⟩; have F0 : Hid (HAt w1 w.heap.size h) := F0.out.below hb F0.out.lt; have F1 : Hid (CW w1 (w.heap.size + 1) c) := F1.out.below hb F1.out.lt; have F2 : Hid (RRun w1 (w.heap.size + 2)) := F2.out.below hb F2.out.lt; have FB : Hid (Below w.heap.size w w1) := FB.out.trans (hb.mono FB.out.size); clear hb; obtain ⟨x0_0, x0_1, x0_2, x0_3, x0_4, x0_5, x0_6, x0_7, x0_8, x0_9, x0_10, x0_11⟩ := F0.out; obtain ⟨x1_0, x1_1, x1_2, y1_0, y1_1, y1_2⟩ := F1.out; obtain ⟨x2_0, x2_1, x2_2, x2_3, x2_4, y2_0, y2_1, y2_2, y2_3, y2_4⟩ := F2.out) | (go_at_call 50; refine (l1In_any _ _ _ _).mono ?_; rintro e w' ⟨rfl, hw⟩; obtain rfl := hw.symm; clear hw))
  exact bodyPost_ret (v := .agg #[.int .i64 3, .int .i64 0, .int .i64 0, .int .i64 0, .int .i64 0]) (by simp [results, Try.results27, go_sem, x2_0, x2_1, x2_2, x2_3, x2_4]) rfl ⟨rfl, by repeat (first | exact FB.out | (refine Below.setCell ?_ (by simp <;> omega) _))⟩
set_option maxRecDepth 20000 in
set_option maxHeartbeats 4000000 in
theorem specRunTo_d (h : Hs) (c : Cs) (f t : Int) (hk : h.car c = 0) (hi : inB f (-1) h.fl = true) (ht : inB t 0 3000 = true) (dz : c.door ≠ 0) (w : World) :
    Calls Try.prog 27 #[.agg #[.int .i64 h.fl, .int .i64 h.gp, .int .i64 h.ln, .int .i64 h.rf, .int .i64 h.sp, .int .i64 h.pu, .int .i64 h.br, .int .i64 h.dr, .int .i64 h.lv, .int .i64 h.dO, .int .i64 h.ld, .int .i64 h.qu], .agg #[.int .i64 c.pos, .int .i64 c.vel, .int .i64 c.door], .int .i64 f, .int .i64 t] w (isRun w 1 0 ⟨0, 0, 0⟩) := by
  have b0 : (c.door != 0) = true := by simpa using dz
  clear dz
  have F0 : Hid (HAt (((w.alloc (.cells #[.int .i64 h.fl, .int .i64 h.gp, .int .i64 h.ln, .int .i64 h.rf, .int .i64 h.sp, .int .i64 h.pu, .int .i64 h.br, .int .i64 h.dr, .int .i64 h.lv, .int .i64 h.dO, .int .i64 h.ld, .int .i64 h.qu] 25)).alloc (.cells #[.int .i64 c.pos, .int .i64 c.vel, .int .i64 c.door] 27)).alloc (.cells #[.int .i64 0, .int .i64 0, .int .i64 0, .int .i64 0, .int .i64 0] 65)) w.heap.size h) := ((HAt.at_ w h _ _ (by simp)).alloc _).alloc _
  have F1 : Hid (CW (((w.alloc (.cells #[.int .i64 h.fl, .int .i64 h.gp, .int .i64 h.ln, .int .i64 h.rf, .int .i64 h.sp, .int .i64 h.pu, .int .i64 h.br, .int .i64 h.dr, .int .i64 h.lv, .int .i64 h.dO, .int .i64 h.ld, .int .i64 h.qu] 25)).alloc (.cells #[.int .i64 c.pos, .int .i64 c.vel, .int .i64 c.door] 27)).alloc (.cells #[.int .i64 0, .int .i64 0, .int .i64 0, .int .i64 0, .int .i64 0] 65)) (w.heap.size + 1) c) := (CW.at_ _ c _ _ (by simp)).alloc _
  have F2 : Hid (RRun (((w.alloc (.cells #[.int .i64 h.fl, .int .i64 h.gp, .int .i64 h.ln, .int .i64 h.rf, .int .i64 h.sp, .int .i64 h.pu, .int .i64 h.br, .int .i64 h.dr, .int .i64 h.lv, .int .i64 h.dO, .int .i64 h.ld, .int .i64 h.qu] 25)).alloc (.cells #[.int .i64 c.pos, .int .i64 c.vel, .int .i64 c.door] 27)).alloc (.cells #[.int .i64 0, .int .i64 0, .int .i64 0, .int .i64 0, .int .i64 0] 65)) (w.heap.size + 2)) := RRun.at_ _ _ _ (by simp)
  have FB : Hid (Below w.heap.size w (((w.alloc (.cells #[.int .i64 h.fl, .int .i64 h.gp, .int .i64 h.ln, .int .i64 h.rf, .int .i64 h.sp, .int .i64 h.pu, .int .i64 h.br, .int .i64 h.dr, .int .i64 h.lv, .int .i64 h.dO, .int .i64 h.ld, .int .i64 h.qu] 25)).alloc (.cells #[.int .i64 c.pos, .int .i64 c.vel, .int .i64 c.door] 27)).alloc (.cells #[.int .i64 0, .int .i64 0, .int .i64 0, .int .i64 0, .int .i64 0] 65))) := ((((Below.refl _ _).alloc (Nat.le_refl _) _).alloc (by simp) _).alloc (by simp; omega) _)
  go_enter Try.func27, Try.ntmps27
  go_wp2_with (first | (go_at_call 12; refine (specCarFault_any h c _).mono ?_; rw [hk]; rintro e w1 ⟨rfl, hb⟩; have F0 : Hid (HAt w1 w.heap.size h) := F0.out.below hb F0.out.lt; have F1 : Hid (CW w1 (w.heap.size + 1) c) := F1.out.below hb F1.out.lt; have F2 : Hid (RRun w1 (w.heap.size + 2)) := F2.out.below hb F2.out.lt; have FB : Hid (Below w.heap.size w w1) := FB.out.trans (hb.mono FB.out.size); clear hb; obtain ⟨x0_0, x0_1, x0_2, x0_3, x0_4, x0_5, x0_6, x0_7, x0_8, x0_9, x0_10, x0_11⟩ := F0.out; obtain ⟨x1_0, x1_1, x1_2, y1_0, y1_1, y1_2⟩ := F1.out; obtain ⟨x2_0, x2_1, x2_2, x2_3, x2_4, y2_0, y2_1, y2_2, y2_3, y2_4⟩ := F2.out) | (go_at_call 50; refine (l1In_any _ _ _ _).mono ?_; rintro e w' ⟨rfl, hw⟩; obtain rfl := hw.symm; clear hw))
  exact bodyPost_ret (v := .agg #[.int .i64 1, .int .i64 0, .int .i64 0, .int .i64 0, .int .i64 0]) (by simp [results, Try.results27, go_sem, x2_0, x2_1, x2_2, x2_3, x2_4]) rfl ⟨rfl, by repeat (first | exact FB.out | (refine Below.setCell ?_ (by simp <;> omega) _))⟩
end Go.Proofs.Ytiahefgmenoflaa
