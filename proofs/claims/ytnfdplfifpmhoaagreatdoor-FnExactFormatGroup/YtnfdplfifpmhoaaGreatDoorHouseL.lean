/-
  The model's house: the places of its floors and refuges, and its ends.
-/
import Derived.Test.YtnfdplfifpmhoaaGreatDoorFnd
namespace Go.Proofs.YtnfdplfifpmhoaaGreatDoor
open Go.RowKit Pl

theorem specLevel_any (h : Hs) (o : h.Ok) (f : Int) (f1 : -1 ≤ f) (f2 : f ≤ 12) (w : World) :
    Calls Tryz.prog 73 #[.agg #[.int .i64 h.fl, .int .i64 h.gp, .int .i64 h.ln, .int .i64 h.rf, .int .i64 h.sp, .int .i64 h.pu, .int .i64 h.br, .int .i64 h.dr, .int .i64 h.lv, .int .i64 h.dO, .int .i64 h.ld, .int .i64 h.qu], .int .i64 f] w fun e w' => e = .returned (.int .i64 (h.level f)) ∧ w' = w.alloc (.cells #[.int .i64 h.fl, .int .i64 h.gp, .int .i64 h.ln, .int .i64 h.rf, .int .i64 h.sp, .int .i64 h.pu, .int .i64 h.br, .int .i64 h.dr, .int .i64 h.lv, .int .i64 h.dO, .int .i64 h.ld, .int .i64 h.qu] 32) := by
  have r1 := o.rf1; have r2 := o.rf2; have g1 := o.gp1; have g2 := o.gp2; have l1 := o.fl1; have l2 := o.fl2
  obtain ⟨t1, t2⟩ := o.top_bd
  by_cases c1 : f < 0
  · have e : Hid (h.level f = -h.rf) := by unfold Hs.level; rw [if_pos c1]; exact rfl
    clear o
    go_enter Tryz.func73, Tryz.ntmps73
    go_wp2
    go_ret
    exact ⟨ret_int e.out.symm, rfl⟩
  · obtain ⟨u1, u2⟩ := o.floor_bd f (by omega) f2
    by_cases c2 : h.fl ≤ f
    · have e : Hid (h.level f = (h.fl - 1) * h.gp + h.rf) := by unfold Hs.level; rw [if_neg c1, if_pos c2]; exact rfl
      clear o
      go_enter Tryz.func73, Tryz.ntmps73
      go_wp2
      go_ret
      exact ⟨ret_int e.out.symm, rfl⟩
    · have e : Hid (h.level f = f * h.gp) := by unfold Hs.level; rw [if_neg c1, if_neg c2]; exact rfl
      clear o
      go_enter Tryz.func73, Tryz.ntmps73
      go_wp2
      go_ret
      exact ⟨ret_int e.out.symm, rfl⟩

theorem specRoom_any (h : Hs) (o : h.Ok) (w : World) :
    Calls Tryz.prog 74 #[.agg #[.int .i64 h.fl, .int .i64 h.gp, .int .i64 h.ln, .int .i64 h.rf, .int .i64 h.sp, .int .i64 h.pu, .int .i64 h.br, .int .i64 h.dr, .int .i64 h.lv, .int .i64 h.dO, .int .i64 h.ld, .int .i64 h.qu]] w fun e w' => e = .returned (.int .i64 h.room) ∧ ∃ k, w' = (w.alloc (.cells #[.int .i64 h.fl, .int .i64 h.gp, .int .i64 h.ln, .int .i64 h.rf, .int .i64 h.sp, .int .i64 h.pu, .int .i64 h.br, .int .i64 h.dr, .int .i64 h.lv, .int .i64 h.dO, .int .i64 h.ld, .int .i64 h.qu] 32)).drewN k := by
  obtain ⟨s1, s2⟩ := o.stop_bd
  have h1 := o.sp1; have h2 := o.sp2; have h3 := o.pu1; have h4 := o.br1; have h5 := o.br2; have h8 := o.lv1; have h9 := o.lv2
  clear o
  have e1 : IntKind.i64.wrap (h.lv + h.sp) = h.lv + h.sp := IntWalk.i64_in _ (by omega)
  have e2 : IntKind.i64.wrap (h.lv + h.sp + stopP h.sp h.br) = h.lv + h.sp + stopP h.sp h.br := IntWalk.i64_in _ (by omega)
  go_enter Tryz.func74, Tryz.ntmps74
  go_wp2_with fail
  go_quiet ((go_at_call 71; exact Calls.quiet_of_same (l1Stop_any _ _ (by omega) (by omega) (by omega) (by omega) _)))
  go_wp2
  go_ret
  exact ⟨rfl, _, rfl⟩

set_option maxHeartbeats 1000000 in
theorem specLow_any (h : Hs) (o : h.Ok) (w : World) :
    Calls Tryz.prog 51 #[.agg #[.int .i64 h.fl, .int .i64 h.gp, .int .i64 h.ln, .int .i64 h.rf, .int .i64 h.sp, .int .i64 h.pu, .int .i64 h.br, .int .i64 h.dr, .int .i64 h.lv, .int .i64 h.dO, .int .i64 h.ld, .int .i64 h.qu]] w fun e w' => e = .returned (.int .i64 h.low) ∧ ∃ k, w' = (((w.alloc (.cells #[.int .i64 h.fl, .int .i64 h.gp, .int .i64 h.ln, .int .i64 h.rf, .int .i64 h.sp, .int .i64 h.pu, .int .i64 h.br, .int .i64 h.dr, .int .i64 h.lv, .int .i64 h.dO, .int .i64 h.ld, .int .i64 h.qu] 32)).alloc (.cells #[.int .i64 h.fl, .int .i64 h.gp, .int .i64 h.ln, .int .i64 h.rf, .int .i64 h.sp, .int .i64 h.pu, .int .i64 h.br, .int .i64 h.dr, .int .i64 h.lv, .int .i64 h.dO, .int .i64 h.ld, .int .i64 h.qu] 32)).alloc (.cells #[.int .i64 h.fl, .int .i64 h.gp, .int .i64 h.ln, .int .i64 h.rf, .int .i64 h.sp, .int .i64 h.pu, .int .i64 h.br, .int .i64 h.dr, .int .i64 h.lv, .int .i64 h.dO, .int .i64 h.ld, .int .i64 h.qu] 32)).drewN k := by
  have r1 := o.rf1; have r2 := o.rf2
  obtain ⟨m1, m2⟩ := o.room_bd
  have lv : h.level (-1) = -h.rf := by unfold Hs.level; rw [if_pos (by omega)]
  have e1 : IntKind.i64.wrap (-h.rf - h.room) = -h.rf - h.room := IntWalk.i64_in _ (by omega)
  have HE : Hid (h.low = -h.rf - h.room) := by unfold Hs.low; exact rfl
  have HO : Hid h.Ok := o
  clear o
  go_enter Tryz.func51, Tryz.ntmps51
  go_wp2_with fail
  go_region_held3 (fun w'' => w''.cell? ⟨w.heap.size, 0, none⟩ = some (.int .i64 h.fl) ∧ w''.cell? ⟨w.heap.size, 1, none⟩ = some (.int .i64 h.gp) ∧ w''.cell? ⟨w.heap.size, 2, none⟩ = some (.int .i64 h.ln) ∧ w''.cell? ⟨w.heap.size, 3, none⟩ = some (.int .i64 h.rf) ∧ w''.cell? ⟨w.heap.size, 4, none⟩ = some (.int .i64 h.sp) ∧ w''.cell? ⟨w.heap.size, 5, none⟩ = some (.int .i64 h.pu) ∧ w''.cell? ⟨w.heap.size, 6, none⟩ = some (.int .i64 h.br) ∧ w''.cell? ⟨w.heap.size, 7, none⟩ = some (.int .i64 h.dr) ∧ w''.cell? ⟨w.heap.size, 8, none⟩ = some (.int .i64 h.lv) ∧ w''.cell? ⟨w.heap.size, 9, none⟩ = some (.int .i64 h.dO) ∧ w''.cell? ⟨w.heap.size, 10, none⟩ = some (.int .i64 h.ld) ∧ w''.cell? ⟨w.heap.size, 11, none⟩ = some (.int .i64 h.qu)) (go_keep) (first | (go_at_call 73; refine (specLevel_any h HO.out _ (by omega) (by omega) _).mono ?_; rw [lv]; rintro e w' ⟨rfl, rfl⟩) | (go_at_call 74; refine (specRoom_any h HO.out _).mono ?_; rintro e w' ⟨rfl, k, rfl⟩))
  all_goals
    go_wp2
    go_ret
    exact ⟨ret_int HE.out.symm, _, rfl⟩

set_option maxHeartbeats 1000000 in
theorem specHigh_any (h : Hs) (o : h.Ok) (w : World) :
    Calls Tryz.prog 50 #[.agg #[.int .i64 h.fl, .int .i64 h.gp, .int .i64 h.ln, .int .i64 h.rf, .int .i64 h.sp, .int .i64 h.pu, .int .i64 h.br, .int .i64 h.dr, .int .i64 h.lv, .int .i64 h.dO, .int .i64 h.ld, .int .i64 h.qu]] w fun e w' => e = .returned (.int .i64 h.high) ∧ ∃ k, w' = (((w.alloc (.cells #[.int .i64 h.fl, .int .i64 h.gp, .int .i64 h.ln, .int .i64 h.rf, .int .i64 h.sp, .int .i64 h.pu, .int .i64 h.br, .int .i64 h.dr, .int .i64 h.lv, .int .i64 h.dO, .int .i64 h.ld, .int .i64 h.qu] 32)).alloc (.cells #[.int .i64 h.fl, .int .i64 h.gp, .int .i64 h.ln, .int .i64 h.rf, .int .i64 h.sp, .int .i64 h.pu, .int .i64 h.br, .int .i64 h.dr, .int .i64 h.lv, .int .i64 h.dO, .int .i64 h.ld, .int .i64 h.qu] 32)).alloc (.cells #[.int .i64 h.fl, .int .i64 h.gp, .int .i64 h.ln, .int .i64 h.rf, .int .i64 h.sp, .int .i64 h.pu, .int .i64 h.br, .int .i64 h.dr, .int .i64 h.lv, .int .i64 h.dO, .int .i64 h.ld, .int .i64 h.qu] 32)).drewN k := by
  have r1 := o.rf1; have r2 := o.rf2; have l1 := o.fl1; have l2 := o.fl2
  obtain ⟨t1, t2⟩ := o.top_bd
  obtain ⟨m1, m2⟩ := o.room_bd
  have lv : h.level h.fl = (h.fl - 1) * h.gp + h.rf := by unfold Hs.level; rw [if_neg (by omega), if_pos (by omega)]
  have e1 : IntKind.i64.wrap ((h.fl - 1) * h.gp + h.rf + h.room) = (h.fl - 1) * h.gp + h.rf + h.room := IntWalk.i64_in _ (by omega)
  have HE : Hid (h.high = (h.fl - 1) * h.gp + h.rf + h.room) := by unfold Hs.high; exact rfl
  have HO : Hid h.Ok := o
  clear o
  go_enter Tryz.func50, Tryz.ntmps50
  go_wp2_with fail
  go_region_held3 (fun w'' => w''.cell? ⟨w.heap.size, 0, none⟩ = some (.int .i64 h.fl) ∧ w''.cell? ⟨w.heap.size, 1, none⟩ = some (.int .i64 h.gp) ∧ w''.cell? ⟨w.heap.size, 2, none⟩ = some (.int .i64 h.ln) ∧ w''.cell? ⟨w.heap.size, 3, none⟩ = some (.int .i64 h.rf) ∧ w''.cell? ⟨w.heap.size, 4, none⟩ = some (.int .i64 h.sp) ∧ w''.cell? ⟨w.heap.size, 5, none⟩ = some (.int .i64 h.pu) ∧ w''.cell? ⟨w.heap.size, 6, none⟩ = some (.int .i64 h.br) ∧ w''.cell? ⟨w.heap.size, 7, none⟩ = some (.int .i64 h.dr) ∧ w''.cell? ⟨w.heap.size, 8, none⟩ = some (.int .i64 h.lv) ∧ w''.cell? ⟨w.heap.size, 9, none⟩ = some (.int .i64 h.dO) ∧ w''.cell? ⟨w.heap.size, 10, none⟩ = some (.int .i64 h.ld) ∧ w''.cell? ⟨w.heap.size, 11, none⟩ = some (.int .i64 h.qu)) (go_keep) (first | (go_at_call 73; refine (specLevel_any h HO.out _ (by omega) (by omega) _).mono ?_; rw [lv]; rintro e w' ⟨rfl, rfl⟩) | (go_at_call 74; refine (specRoom_any h HO.out _).mono ?_; rintro e w' ⟨rfl, k, rfl⟩))
  all_goals
    go_wp2
    go_ret
    exact ⟨ret_int HE.out.symm, _, rfl⟩
end Go.Proofs.YtnfdplfifpmhoaaGreatDoor
