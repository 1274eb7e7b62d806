/-
  The model's house: the bounds of a run and of a service.
-/
import Derived.Test.YtehdgifinanbbaaHouseL
import Derived.Test.YtehdgifinanbbaaFnd
namespace Go.Proofs.Ytehdgifinanbbaa
open Go.RowKit Pl

theorem specLow_below (h : Hs) (o : h.Ok) (w : World) :
    Calls Try.prog 71 #[.agg #[.int .i64 h.fl, .int .i64 h.gp, .int .i64 h.ln, .int .i64 h.rf, .int .i64 h.sp, .int .i64 h.pu, .int .i64 h.br, .int .i64 h.dr, .int .i64 h.lv, .int .i64 h.dO, .int .i64 h.ld, .int .i64 h.qu]] w fun e w' => e = .returned (.int .i64 h.low) ∧ Below w.heap.size w w' :=
  (specLow_any h o w).mono fun e w' ⟨he, k, hw⟩ => ⟨he, by rw [hw]; repeat (first | exact Below.refl _ _ | apply Below.drew | apply below_drewN | (refine Below.alloc ?_ ?_ _) | (simp; omega) | simp)⟩
theorem specHigh_below (h : Hs) (o : h.Ok) (w : World) :
    Calls Try.prog 70 #[.agg #[.int .i64 h.fl, .int .i64 h.gp, .int .i64 h.ln, .int .i64 h.rf, .int .i64 h.sp, .int .i64 h.pu, .int .i64 h.br, .int .i64 h.dr, .int .i64 h.lv, .int .i64 h.dO, .int .i64 h.ld, .int .i64 h.qu]] w fun e w' => e = .returned (.int .i64 h.high) ∧ Below w.heap.size w w' :=
  (specHigh_any h o w).mono fun e w' ⟨he, k, hw⟩ => ⟨he, by rw [hw]; repeat (first | exact Below.refl _ _ | apply Below.drew | apply below_drewN | (refine Below.alloc ?_ ?_ _) | (simp; omega) | simp)⟩

set_option maxHeartbeats 2000000 in
theorem specRun_below (h : Hs) (o : h.Ok) (w : World) :
    Calls Try.prog 96 #[.agg #[.int .i64 h.fl, .int .i64 h.gp, .int .i64 h.ln, .int .i64 h.rf, .int .i64 h.sp, .int .i64 h.pu, .int .i64 h.br, .int .i64 h.dr, .int .i64 h.lv, .int .i64 h.dO, .int .i64 h.ld, .int .i64 h.qu]] w fun e w' => e = .returned (.int .i64 h.run) ∧ Below w.heap.size w w' := by
  have s1 := o.sp1; have s2 := o.sp2; have p1 := o.pu1; have p2 := o.pu2
  obtain ⟨hl1, hl2⟩ := o.span_bd
  obtain ⟨u1, u2⟩ := o.up1_bd
  obtain ⟨u3, u4⟩ := o.up2_bd
  have e1 : IntKind.i64.wrap (h.high - h.low) = h.high - h.low := IntWalk.i64_in _ (by omega)
  have e2 : IntKind.i64.wrap (4 * h.sp) = 4 * h.sp := IntWalk.i64_in _ (by omega)
  have e3 : IntKind.i64.wrap ((h.high - h.low + h.sp - 1) / h.sp + (4 * h.sp + h.pu - 1) / h.pu) = (h.high - h.low + h.sp - 1) / h.sp + (4 * h.sp + h.pu - 1) / h.pu := IntWalk.i64_in _ (by omega)
  have e4 : IntKind.i64.wrap ((h.high - h.low + h.sp - 1) / h.sp + (4 * h.sp + h.pu - 1) / h.pu + 10) = (h.high - h.low + h.sp - 1) / h.sp + (4 * h.sp + h.pu - 1) / h.pu + 10 := IntWalk.i64_in _ (by omega)
  have HO : Hid h.Ok := o
  clear o
  have HH : Hid (HAt (w.alloc (.cells #[.int .i64 h.fl, .int .i64 h.gp, .int .i64 h.ln, .int .i64 h.rf, .int .i64 h.sp, .int .i64 h.pu, .int .i64 h.br, .int .i64 h.dr, .int .i64 h.lv, .int .i64 h.dO, .int .i64 h.ld, .int .i64 h.qu] 32)).drew w.heap.size h) := (HAt.new w h _).below (Below.refl (w.heap.size + 1) _).drew (by omega)
  have HB : Hid (Below w.heap.size w (w.alloc (.cells #[.int .i64 h.fl, .int .i64 h.gp, .int .i64 h.ln, .int .i64 h.rf, .int .i64 h.sp, .int .i64 h.pu, .int .i64 h.br, .int .i64 h.dr, .int .i64 h.lv, .int .i64 h.dO, .int .i64 h.ld, .int .i64 h.qu] 32)).drew) := ((Below.refl _ _).alloc (Nat.le_refl _) _).drew
  go_enter Try.func96, Try.ntmps96
  go_wp2_with fail
  go_region_held3 (fun w'' => w''.cell? ⟨w.heap.size, 0, none⟩ = some (.int .i64 h.fl) ∧ w''.cell? ⟨w.heap.size, 1, none⟩ = some (.int .i64 h.gp) ∧ w''.cell? ⟨w.heap.size, 2, none⟩ = some (.int .i64 h.ln) ∧ w''.cell? ⟨w.heap.size, 3, none⟩ = some (.int .i64 h.rf) ∧ w''.cell? ⟨w.heap.size, 4, none⟩ = some (.int .i64 h.sp) ∧ w''.cell? ⟨w.heap.size, 5, none⟩ = some (.int .i64 h.pu) ∧ w''.cell? ⟨w.heap.size, 6, none⟩ = some (.int .i64 h.br) ∧ w''.cell? ⟨w.heap.size, 7, none⟩ = some (.int .i64 h.dr) ∧ w''.cell? ⟨w.heap.size, 8, none⟩ = some (.int .i64 h.lv) ∧ w''.cell? ⟨w.heap.size, 9, none⟩ = some (.int .i64 h.dO) ∧ w''.cell? ⟨w.heap.size, 10, none⟩ = some (.int .i64 h.ld) ∧ w''.cell? ⟨w.heap.size, 11, none⟩ = some (.int .i64 h.qu)) (go_keep) (first | (go_at_call 70; refine (specHigh_below h HO.out _).mono ?_; rintro e w1 ⟨rfl, hb⟩; have HH : Hid (HAt w1 w.heap.size h) := HH.out.below hb HH.out.lt; have HB : Hid (Below w.heap.size w w1) := HB.out.trans (hb.mono HB.out.size); obtain ⟨q0, q1, q2, q3, q4, q5, q6, q7, q8, q9, q10, q11⟩ := HH.out; clear hb) | (go_at_call 71; refine (specLow_below h HO.out _).mono ?_; rintro e w1 ⟨rfl, hb⟩; have HH : Hid (HAt w1 w.heap.size h) := HH.out.below hb HH.out.lt; have HB : Hid (Below w.heap.size w w1) := HB.out.trans (hb.mono HB.out.size); obtain ⟨q0, q1, q2, q3, q4, q5, q6, q7, q8, q9, q10, q11⟩ := HH.out; clear hb) | (go_at_call 126; refine (l1Up_any _ _ (by omega) (by omega) (by omega) (by omega) _).mono ?_; rintro e w' ⟨rfl, hw⟩; obtain rfl := hw.symm))
  all_goals
    go_wp2
    go_ret
    exact ⟨rfl, HB.out⟩

set_option maxHeartbeats 2000000 in
theorem specServe_below (h : Hs) (o : h.Ok) (w : World) :
    Calls Try.prog 61 #[.agg #[.int .i64 h.fl, .int .i64 h.gp, .int .i64 h.ln, .int .i64 h.rf, .int .i64 h.sp, .int .i64 h.pu, .int .i64 h.br, .int .i64 h.dr, .int .i64 h.lv, .int .i64 h.dO, .int .i64 h.ld, .int .i64 h.qu]] w fun e w' => e = .returned (.int .i64 h.serve) ∧ Below w.heap.size w w' := by
  have d1 := o.do1; have d2 := o.do2
  obtain ⟨r1, r2⟩ := o.run_bd
  have e1 : IntKind.i64.wrap (4 * h.run) = 4 * h.run := IntWalk.i64_in _ (by omega)
  have e2 : IntKind.i64.wrap (4 * h.dO) = 4 * h.dO := IntWalk.i64_in _ (by omega)
  have e3 : IntKind.i64.wrap (4 * h.run + 4 * h.dO) = 4 * h.run + 4 * h.dO := IntWalk.i64_in _ (by omega)
  have e4 : IntKind.i64.wrap (4 * h.run + 4 * h.dO + 20) = 4 * h.run + 4 * h.dO + 20 := IntWalk.i64_in _ (by omega)
  have HO : Hid h.Ok := o
  clear o
  have HH : Hid (HAt (w.alloc (.cells #[.int .i64 h.fl, .int .i64 h.gp, .int .i64 h.ln, .int .i64 h.rf, .int .i64 h.sp, .int .i64 h.pu, .int .i64 h.br, .int .i64 h.dr, .int .i64 h.lv, .int .i64 h.dO, .int .i64 h.ld, .int .i64 h.qu] 32)).drew w.heap.size h) := (HAt.new w h _).below (Below.refl (w.heap.size + 1) _).drew (by omega)
  have HB : Hid (Below w.heap.size w (w.alloc (.cells #[.int .i64 h.fl, .int .i64 h.gp, .int .i64 h.ln, .int .i64 h.rf, .int .i64 h.sp, .int .i64 h.pu, .int .i64 h.br, .int .i64 h.dr, .int .i64 h.lv, .int .i64 h.dO, .int .i64 h.ld, .int .i64 h.qu] 32)).drew) := ((Below.refl _ _).alloc (Nat.le_refl _) _).drew
  go_enter Try.func61, Try.ntmps61
  go_wp2_with fail
  go_region_held3 (fun w'' => w''.cell? ⟨w.heap.size, 0, none⟩ = some (.int .i64 h.fl) ∧ w''.cell? ⟨w.heap.size, 1, none⟩ = some (.int .i64 h.gp) ∧ w''.cell? ⟨w.heap.size, 2, none⟩ = some (.int .i64 h.ln) ∧ w''.cell? ⟨w.heap.size, 3, none⟩ = some (.int .i64 h.rf) ∧ w''.cell? ⟨w.heap.size, 4, none⟩ = some (.int .i64 h.sp) ∧ w''.cell? ⟨w.heap.size, 5, none⟩ = some (.int .i64 h.pu) ∧ w''.cell? ⟨w.heap.size, 6, none⟩ = some (.int .i64 h.br) ∧ w''.cell? ⟨w.heap.size, 7, none⟩ = some (.int .i64 h.dr) ∧ w''.cell? ⟨w.heap.size, 8, none⟩ = some (.int .i64 h.lv) ∧ w''.cell? ⟨w.heap.size, 9, none⟩ = some (.int .i64 h.dO) ∧ w''.cell? ⟨w.heap.size, 10, none⟩ = some (.int .i64 h.ld) ∧ w''.cell? ⟨w.heap.size, 11, none⟩ = some (.int .i64 h.qu)) (go_keep) ((go_at_call 96; refine (specRun_below h HO.out _).mono ?_; rintro e w1 ⟨rfl, hb⟩; have HH : Hid (HAt w1 w.heap.size h) := HH.out.below hb HH.out.lt; have HB : Hid (Below w.heap.size w w1) := HB.out.trans (hb.mono HB.out.size); obtain ⟨q0, q1, q2, q3, q4, q5, q6, q7, q8, q9, q10, q11⟩ := HH.out; clear hb))
  all_goals
    go_wp2
    go_ret
    exact ⟨rfl, HB.out⟩
end Go.Proofs.Ytehdgifinanbbaa
