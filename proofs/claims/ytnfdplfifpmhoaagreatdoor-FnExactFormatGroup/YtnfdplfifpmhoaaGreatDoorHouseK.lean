/-
  The program's house: the places of its floors and refuges, its ends, the bounds of a run and of a service.
-/
import Derived.Test.YtnfdplfifpmhoaaGreatDoorHouseJ
import Derived.Test.YtnfdplfifpmhoaaGreatDoorHouseL
import Derived.Test.YtnfdplfifpmhoaaGreatDoorHouseE
import Derived.Test.YtnfdplfifpmhoaaGreatDoorFnd
namespace Go.Proofs.YtnfdplfifpmhoaaGreatDoor
open Go.RowKit Pl

theorem placeOf_any (h : Hs) (o : h.Ok) (f : Int) (f1 : -1 ≤ f) (f2 : f ≤ h.fl) (w : World) :
    Calls Tryz.prog 101 #[.agg #[.int .i64 h.fl, .int .i64 h.gp, .int .i64 h.ln, .int .i64 h.rf, .int .i64 h.sp, .int .i64 h.pu, .int .i64 h.br, .int .i64 h.dr, .int .i64 h.lv, .int .i64 h.dO, .int .i64 h.ld, .int .i64 h.qu], .int .i64 f] w fun e w' => e = .returned (.int .i64 (h.level f)) ∧ Below w.heap.size w w' := by
  have r1 := o.rf1; have r2 := o.rf2; have g1 := o.gp1; have g2 := o.gp2; have l1 := o.fl1; have l2 := o.fl2
  obtain ⟨t1, t2⟩ := o.top_bd
  by_cases c1 : f = -1
  · subst c1
    have e : Hid (h.level (-1) = -h.rf) := by unfold Hs.level; rw [if_pos (by omega)]; exact rfl
    clear o
    go_enter Tryz.func101, Tryz.ntmps101
    go_wp2
    go_ret
    exact ⟨ret_int e.out.symm, (Below.refl _ _).alloc (Nat.le_refl _) _⟩
  · obtain ⟨u1, u2⟩ := o.floor_bd f (by omega) (by omega)
    have b1 : (f == -1) = false := by simpa using c1
    by_cases c2 : f = h.fl
    · have e : Hid (h.level f = (h.fl - 1) * h.gp + h.rf) := by unfold Hs.level; rw [if_neg (by omega), if_pos (by omega)]; exact rfl
      have b2 : (f == h.fl) = true := by simpa using c2
      clear o c2
      go_enter Tryz.func101, Tryz.ntmps101
      go_wp2
      go_ret
      exact ⟨ret_int e.out.symm, (Below.refl _ _).alloc (Nat.le_refl _) _⟩
    · have e : Hid (h.level f = f * h.gp) := by unfold Hs.level; rw [if_neg (by omega), if_neg (by omega)]; exact rfl
      have b2 : (f == h.fl) = false := by simpa using c2
      clear o c2
      go_enter Tryz.func101, Tryz.ntmps101
      go_wp2
      go_ret
      exact ⟨ret_int e.out.symm, (Below.refl _ _).alloc (Nat.le_refl _) _⟩

set_option maxHeartbeats 1000000 in
theorem lowestPlace_any (h : Hs) (o : h.Ok) (w : World) :
    Calls Tryz.prog 85 #[.agg #[.int .i64 h.fl, .int .i64 h.gp, .int .i64 h.ln, .int .i64 h.rf, .int .i64 h.sp, .int .i64 h.pu, .int .i64 h.br, .int .i64 h.dr, .int .i64 h.lv, .int .i64 h.dO, .int .i64 h.ld, .int .i64 h.qu]] w fun e w' => e = .returned (.int .i64 h.low) ∧ Below w.heap.size w w' := by
  obtain ⟨s1, s2⟩ := o.stop_bd
  have r1 := o.rf1; have r2 := o.rf2; have l1 := o.fl1; have h1 := o.sp1; have h2 := o.sp2; have h8 := o.lv1; have h9 := o.lv2
  have lv : h.level (-1) = -h.rf := by unfold Hs.level; rw [if_pos (by omega)]
  have HE : Hid (-h.rf - h.lv - (h.sp + stopP h.sp h.br) = h.low) := by unfold Hs.low Hs.room; exact (by omega : -h.rf - h.lv - (h.sp + stopP h.sp h.br) = -h.rf - (h.lv + h.sp + stopP h.sp h.br))
  have e1 : IntKind.i64.wrap (-h.rf - h.lv) = -h.rf - h.lv := IntWalk.i64_in _ (by omega)
  have e2 : IntKind.i64.wrap (-h.rf - h.lv - (h.sp + stopP h.sp h.br)) = -h.rf - h.lv - (h.sp + stopP h.sp h.br) := IntWalk.i64_in _ (by omega)
  have HO : Hid h.Ok := o
  clear o
  have HH : Hid (HAt (w.alloc (.cells #[.int .i64 h.fl, .int .i64 h.gp, .int .i64 h.ln, .int .i64 h.rf, .int .i64 h.sp, .int .i64 h.pu, .int .i64 h.br, .int .i64 h.dr, .int .i64 h.lv, .int .i64 h.dO, .int .i64 h.ld, .int .i64 h.qu] 32)).drew w.heap.size h) := (HAt.new w h _).drew
  have HB : Hid (Below w.heap.size w (w.alloc (.cells #[.int .i64 h.fl, .int .i64 h.gp, .int .i64 h.ln, .int .i64 h.rf, .int .i64 h.sp, .int .i64 h.pu, .int .i64 h.br, .int .i64 h.dr, .int .i64 h.lv, .int .i64 h.dO, .int .i64 h.ld, .int .i64 h.qu] 32)).drew) := ((Below.refl _ _).alloc (Nat.le_refl _) _).drew
  go_enter Tryz.func85, Tryz.ntmps85
  go_wp2_with fail
  go_region_held3 (fun w'' => w''.cell? ⟨w.heap.size, 0, none⟩ = some (.int .i64 h.fl) ∧ w''.cell? ⟨w.heap.size, 1, none⟩ = some (.int .i64 h.gp) ∧ w''.cell? ⟨w.heap.size, 2, none⟩ = some (.int .i64 h.ln) ∧ w''.cell? ⟨w.heap.size, 3, none⟩ = some (.int .i64 h.rf) ∧ w''.cell? ⟨w.heap.size, 4, none⟩ = some (.int .i64 h.sp) ∧ w''.cell? ⟨w.heap.size, 5, none⟩ = some (.int .i64 h.pu) ∧ w''.cell? ⟨w.heap.size, 6, none⟩ = some (.int .i64 h.br) ∧ w''.cell? ⟨w.heap.size, 7, none⟩ = some (.int .i64 h.dr) ∧ w''.cell? ⟨w.heap.size, 8, none⟩ = some (.int .i64 h.lv) ∧ w''.cell? ⟨w.heap.size, 9, none⟩ = some (.int .i64 h.dO) ∧ w''.cell? ⟨w.heap.size, 10, none⟩ = some (.int .i64 h.ld) ∧ w''.cell? ⟨w.heap.size, 11, none⟩ = some (.int .i64 h.qu)) (go_keep) (first | (go_at_call 101; refine (placeOf_any h HO.out _ (by omega) (by omega) _).mono ?_; rw [lv]; rintro e w1 ⟨rfl, hb⟩; have HH : Hid (HAt w1 w.heap.size h) := HH.out.below hb HH.out.lt; have HB : Hid (Below w.heap.size w w1) := HB.out.trans (hb.mono HB.out.size); obtain ⟨q0, q1, q2, q3, q4, q5, q6, q7, q8, q9, q10, q11⟩ := HH.out; clear hb) | (go_at_call 79; refine (fullStop_any h HO.out _).mono ?_; rintro e w1 ⟨rfl, hb⟩; have HH : Hid (HAt w1 w.heap.size h) := HH.out.below hb HH.out.lt; have HB : Hid (Below w.heap.size w w1) := HB.out.trans (hb.mono HB.out.size); obtain ⟨q0, q1, q2, q3, q4, q5, q6, q7, q8, q9, q10, q11⟩ := HH.out; clear hb))
  all_goals
    go_wp2
    go_ret
    exact ⟨ret_int HE.out, HB.out⟩

set_option maxHeartbeats 1000000 in
theorem highestPlace_any (h : Hs) (o : h.Ok) (w : World) :
    Calls Tryz.prog 83 #[.agg #[.int .i64 h.fl, .int .i64 h.gp, .int .i64 h.ln, .int .i64 h.rf, .int .i64 h.sp, .int .i64 h.pu, .int .i64 h.br, .int .i64 h.dr, .int .i64 h.lv, .int .i64 h.dO, .int .i64 h.ld, .int .i64 h.qu]] w fun e w' => e = .returned (.int .i64 h.high) ∧ Below w.heap.size w w' := by
  obtain ⟨s1, s2⟩ := o.stop_bd
  obtain ⟨t1, t2⟩ := o.top_bd
  have r1 := o.rf1; have r2 := o.rf2; have l1 := o.fl1; have h1 := o.sp1; have h2 := o.sp2; have h8 := o.lv1; have h9 := o.lv2
  have lv : h.level h.fl = (h.fl - 1) * h.gp + h.rf := by unfold Hs.level; rw [if_neg (by omega), if_pos (by omega)]
  have HE : Hid ((h.fl - 1) * h.gp + h.rf + h.lv + (h.sp + stopP h.sp h.br) = h.high) := by unfold Hs.high Hs.room; exact (by omega : (h.fl - 1) * h.gp + h.rf + h.lv + (h.sp + stopP h.sp h.br) = (h.fl - 1) * h.gp + h.rf + (h.lv + h.sp + stopP h.sp h.br))
  have e1 : IntKind.i64.wrap ((h.fl - 1) * h.gp + h.rf + h.lv) = (h.fl - 1) * h.gp + h.rf + h.lv := IntWalk.i64_in _ (by omega)
  have e2 : IntKind.i64.wrap ((h.fl - 1) * h.gp + h.rf + h.lv + (h.sp + stopP h.sp h.br)) = (h.fl - 1) * h.gp + h.rf + h.lv + (h.sp + stopP h.sp h.br) := IntWalk.i64_in _ (by omega)
  have HO : Hid h.Ok := o
  clear o
  have HH : Hid (HAt (w.alloc (.cells #[.int .i64 h.fl, .int .i64 h.gp, .int .i64 h.ln, .int .i64 h.rf, .int .i64 h.sp, .int .i64 h.pu, .int .i64 h.br, .int .i64 h.dr, .int .i64 h.lv, .int .i64 h.dO, .int .i64 h.ld, .int .i64 h.qu] 32)).drew w.heap.size h) := (HAt.new w h _).drew
  have HB : Hid (Below w.heap.size w (w.alloc (.cells #[.int .i64 h.fl, .int .i64 h.gp, .int .i64 h.ln, .int .i64 h.rf, .int .i64 h.sp, .int .i64 h.pu, .int .i64 h.br, .int .i64 h.dr, .int .i64 h.lv, .int .i64 h.dO, .int .i64 h.ld, .int .i64 h.qu] 32)).drew) := ((Below.refl _ _).alloc (Nat.le_refl _) _).drew
  go_enter Tryz.func83, Tryz.ntmps83
  go_wp2_with fail
  go_region_held3 (fun w'' => w''.cell? ⟨w.heap.size, 0, none⟩ = some (.int .i64 h.fl) ∧ w''.cell? ⟨w.heap.size, 1, none⟩ = some (.int .i64 h.gp) ∧ w''.cell? ⟨w.heap.size, 2, none⟩ = some (.int .i64 h.ln) ∧ w''.cell? ⟨w.heap.size, 3, none⟩ = some (.int .i64 h.rf) ∧ w''.cell? ⟨w.heap.size, 4, none⟩ = some (.int .i64 h.sp) ∧ w''.cell? ⟨w.heap.size, 5, none⟩ = some (.int .i64 h.pu) ∧ w''.cell? ⟨w.heap.size, 6, none⟩ = some (.int .i64 h.br) ∧ w''.cell? ⟨w.heap.size, 7, none⟩ = some (.int .i64 h.dr) ∧ w''.cell? ⟨w.heap.size, 8, none⟩ = some (.int .i64 h.lv) ∧ w''.cell? ⟨w.heap.size, 9, none⟩ = some (.int .i64 h.dO) ∧ w''.cell? ⟨w.heap.size, 10, none⟩ = some (.int .i64 h.ld) ∧ w''.cell? ⟨w.heap.size, 11, none⟩ = some (.int .i64 h.qu)) (go_keep) (first | (go_at_call 101; refine (placeOf_any h HO.out _ (by omega) (by omega) _).mono ?_; rw [lv]; rintro e w1 ⟨rfl, hb⟩; have HH : Hid (HAt w1 w.heap.size h) := HH.out.below hb HH.out.lt; have HB : Hid (Below w.heap.size w w1) := HB.out.trans (hb.mono HB.out.size); obtain ⟨q0, q1, q2, q3, q4, q5, q6, q7, q8, q9, q10, q11⟩ := HH.out; clear hb) | (go_at_call 79; refine (fullStop_any h HO.out _).mono ?_; rintro e w1 ⟨rfl, hb⟩; have HH : Hid (HAt w1 w.heap.size h) := HH.out.below hb HH.out.lt; have HB : Hid (Below w.heap.size w w1) := HB.out.trans (hb.mono HB.out.size); obtain ⟨q0, q1, q2, q3, q4, q5, q6, q7, q8, q9, q10, q11⟩ := HH.out; clear hb))
  all_goals
    go_wp2
    go_ret
    exact ⟨ret_int HE.out, HB.out⟩

end Go.Proofs.YtnfdplfifpmhoaaGreatDoor
