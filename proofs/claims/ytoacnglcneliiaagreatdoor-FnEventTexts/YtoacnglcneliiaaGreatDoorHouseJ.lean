/-
  The program's house: is it within its bounds, how far apart must its floors be, its fault?
-/
import Derived.Test.YtoacnglcneliiaaGreatDoorHouseI
namespace Go.Proofs.YtoacnglcneliiaaGreatDoor
open Go.RowKit Pl

set_option maxHeartbeats 1000000 in
theorem isBounded_any (h : Hs) (w : World) :
    Calls Tryz.prog 35 #[.agg #[.int .i64 h.fl, .int .i64 h.gp, .int .i64 h.ln, .int .i64 h.rf, .int .i64 h.sp, .int .i64 h.pu, .int .i64 h.br, .int .i64 h.dr, .int .i64 h.lv, .int .i64 h.dO, .int .i64 h.ld, .int .i64 h.qu]] w fun e w' => e = .returned (.bool h.rangeB) ∧ Below w.heap.size w w' := by
  obtain ⟨g, hg⟩ : ∃ g, bnd h = g := ⟨_, rfl⟩
  have HX : ∀ w'' : World, (binOp .eql 25 (.agg #[.int .i64 h.fl, .int .i64 h.gp, .int .i64 h.ln, .int .i64 h.rf, .int .i64 h.sp, .int .i64 h.pu, .int .i64 h.br, .int .i64 h.dr, .int .i64 h.lv, .int .i64 h.dO, .int .i64 h.ld, .int .i64 h.qu]) (.agg #[.int .i64 g.fl, .int .i64 g.gp, .int .i64 g.ln, .int .i64 g.rf, .int .i64 g.sp, .int .i64 g.pu, .int .i64 g.br, .int .i64 g.dr, .int .i64 g.lv, .int .i64 g.dO, .int .i64 g.ld, .int .i64 g.qu])).run Tryz.prog w'' = .ok (.bool h.rangeB) w'' := fun w'' => by rw [eq_house, ← hg, same_range]
  have HH : Hid (HAt (w.alloc (.cells #[.int .i64 h.fl, .int .i64 h.gp, .int .i64 h.ln, .int .i64 h.rf, .int .i64 h.sp, .int .i64 h.pu, .int .i64 h.br, .int .i64 h.dr, .int .i64 h.lv, .int .i64 h.dO, .int .i64 h.ld, .int .i64 h.qu] 25)).drew w.heap.size h) := (HAt.new w h _).drew
  have HB : Hid (Below w.heap.size w (w.alloc (.cells #[.int .i64 h.fl, .int .i64 h.gp, .int .i64 h.ln, .int .i64 h.rf, .int .i64 h.sp, .int .i64 h.pu, .int .i64 h.br, .int .i64 h.dr, .int .i64 h.lv, .int .i64 h.dO, .int .i64 h.ld, .int .i64 h.qu] 25)).drew) := ((Below.refl _ _).alloc (Nat.le_refl _) _).drew
  go_enter Tryz.func35, Tryz.ntmps35
  go_wp2_with fail
  go_region_held3 (fun w'' => w''.cell? ⟨w.heap.size, 0, none⟩ = some (.int .i64 h.fl) ∧ w''.cell? ⟨w.heap.size, 1, none⟩ = some (.int .i64 h.gp) ∧ w''.cell? ⟨w.heap.size, 2, none⟩ = some (.int .i64 h.ln) ∧ w''.cell? ⟨w.heap.size, 3, none⟩ = some (.int .i64 h.rf) ∧ w''.cell? ⟨w.heap.size, 4, none⟩ = some (.int .i64 h.sp) ∧ w''.cell? ⟨w.heap.size, 5, none⟩ = some (.int .i64 h.pu) ∧ w''.cell? ⟨w.heap.size, 6, none⟩ = some (.int .i64 h.br) ∧ w''.cell? ⟨w.heap.size, 7, none⟩ = some (.int .i64 h.dr) ∧ w''.cell? ⟨w.heap.size, 8, none⟩ = some (.int .i64 h.lv) ∧ w''.cell? ⟨w.heap.size, 9, none⟩ = some (.int .i64 h.dO) ∧ w''.cell? ⟨w.heap.size, 10, none⟩ = some (.int .i64 h.ld) ∧ w''.cell? ⟨w.heap.size, 11, none⟩ = some (.int .i64 h.qu)) (go_keep) ((go_at_call 62; refine (boundedHouse_any h g hg _).mono ?_; rintro e w1 ⟨rfl, hb⟩; have HH : Hid (HAt w1 w.heap.size h) := HH.out.below hb HH.out.lt; have HB : Hid (Below w.heap.size w w1) := HB.out.trans (hb.mono HB.out.size); obtain ⟨q0, q1, q2, q3, q4, q5, q6, q7, q8, q9, q10, q11⟩ := HH.out; clear hb))
  all_goals
    go_wp2
    go_ret
    exact ⟨rfl, HB.out⟩

theorem fullStop_any (h : Hs) (o : h.Ok) (w : World) :
    Calls Tryz.prog 63 #[.agg #[.int .i64 h.fl, .int .i64 h.gp, .int .i64 h.ln, .int .i64 h.rf, .int .i64 h.sp, .int .i64 h.pu, .int .i64 h.br, .int .i64 h.dr, .int .i64 h.lv, .int .i64 h.dO, .int .i64 h.ld, .int .i64 h.qu]] w fun e w' => e = .returned (.int .i64 (h.sp + stopP h.sp h.br)) ∧ Below w.heap.size w w' := by
  obtain ⟨s1, s2⟩ := o.stop_bd
  have h1 := o.sp1; have h2 := o.sp2; have h3 := o.pu1; have h4 := o.br1; have h5 := o.br2
  have e1 : IntKind.i64.wrap (h.sp + stopP h.sp h.br) = h.sp + stopP h.sp h.br := IntWalk.i64_in _ (by omega)
  clear o
  go_enter Tryz.func63, Tryz.ntmps63
  go_wp2_with fail
  go_quiet ((go_at_call 85; exact Calls.quiet_of_same (pathToStop_any _ _ (by omega) (by omega) (by omega) (by omega) _)))
  go_wp2
  go_ret
  exact ⟨rfl, below_of_drawn rfl ((Below.refl _ _).alloc (Nat.le_refl _) _)⟩

set_option maxHeartbeats 1000000 in
theorem spacing_any (h : Hs) (o : h.Ok) (w : World) :
    Calls Tryz.prog 36 #[.agg #[.int .i64 h.fl, .int .i64 h.gp, .int .i64 h.ln, .int .i64 h.rf, .int .i64 h.sp, .int .i64 h.pu, .int .i64 h.br, .int .i64 h.dr, .int .i64 h.lv, .int .i64 h.dO, .int .i64 h.ld, .int .i64 h.qu]] w fun e w' => e = .returned (.int .i64 h.apart) ∧ Below w.heap.size w w' := by
  obtain ⟨s1, s2⟩ := o.stop_bd
  have h1 := o.sp1; have h2 := o.sp2; have h6 := o.ln1; have h7 := o.ln2; have h8 := o.lv1; have h9 := o.lv2
  have HO : Hid h.Ok := o
  clear o
  have HE : Hid (h.ln + (h.sp + stopP h.sp h.br) + 2 * h.lv = h.apart) := by unfold Hs.apart; exact (by omega : h.ln + (h.sp + stopP h.sp h.br) + 2 * h.lv = h.ln + h.sp + stopP h.sp h.br + 2 * h.lv)
  have e1 : IntKind.i64.wrap (h.ln + (h.sp + stopP h.sp h.br)) = h.ln + (h.sp + stopP h.sp h.br) := IntWalk.i64_in _ (by omega)
  have e3 : IntKind.i64.wrap (2 * h.lv) = 2 * h.lv := IntWalk.i64_in _ (by omega)
  have e4 : IntKind.i64.wrap (h.ln + (h.sp + stopP h.sp h.br) + 2 * h.lv) = h.ln + (h.sp + stopP h.sp h.br) + 2 * h.lv := IntWalk.i64_in _ (by omega)
  have HH : Hid (HAt (w.alloc (.cells #[.int .i64 h.fl, .int .i64 h.gp, .int .i64 h.ln, .int .i64 h.rf, .int .i64 h.sp, .int .i64 h.pu, .int .i64 h.br, .int .i64 h.dr, .int .i64 h.lv, .int .i64 h.dO, .int .i64 h.ld, .int .i64 h.qu] 25)).drew w.heap.size h) := (HAt.new w h _).drew
  have HB : Hid (Below w.heap.size w (w.alloc (.cells #[.int .i64 h.fl, .int .i64 h.gp, .int .i64 h.ln, .int .i64 h.rf, .int .i64 h.sp, .int .i64 h.pu, .int .i64 h.br, .int .i64 h.dr, .int .i64 h.lv, .int .i64 h.dO, .int .i64 h.ld, .int .i64 h.qu] 25)).drew) := ((Below.refl _ _).alloc (Nat.le_refl _) _).drew
  go_enter Tryz.func36, Tryz.ntmps36
  go_wp2_with fail
  go_region_held3 (fun w'' => w''.cell? ⟨w.heap.size, 0, none⟩ = some (.int .i64 h.fl) ∧ w''.cell? ⟨w.heap.size, 1, none⟩ = some (.int .i64 h.gp) ∧ w''.cell? ⟨w.heap.size, 2, none⟩ = some (.int .i64 h.ln) ∧ w''.cell? ⟨w.heap.size, 3, none⟩ = some (.int .i64 h.rf) ∧ w''.cell? ⟨w.heap.size, 4, none⟩ = some (.int .i64 h.sp) ∧ w''.cell? ⟨w.heap.size, 5, none⟩ = some (.int .i64 h.pu) ∧ w''.cell? ⟨w.heap.size, 6, none⟩ = some (.int .i64 h.br) ∧ w''.cell? ⟨w.heap.size, 7, none⟩ = some (.int .i64 h.dr) ∧ w''.cell? ⟨w.heap.size, 8, none⟩ = some (.int .i64 h.lv) ∧ w''.cell? ⟨w.heap.size, 9, none⟩ = some (.int .i64 h.dO) ∧ w''.cell? ⟨w.heap.size, 10, none⟩ = some (.int .i64 h.ld) ∧ w''.cell? ⟨w.heap.size, 11, none⟩ = some (.int .i64 h.qu)) (go_keep) ((go_at_call 63; refine (fullStop_any h HO.out _).mono ?_; rintro e w1 ⟨rfl, hb⟩; have HH : Hid (HAt w1 w.heap.size h) := HH.out.below hb HH.out.lt; have HB : Hid (Below w.heap.size w w1) := HB.out.trans (hb.mono HB.out.size); obtain ⟨q0, q1, q2, q3, q4, q5, q6, q7, q8, q9, q10, q11⟩ := HH.out; clear hb))
  all_goals
    go_wp2
    go_ret
    exact ⟨ret_int HE.out, HB.out⟩

set_option maxHeartbeats 1000000 in
theorem implFault_any (h : Hs) (w : World) :
    Calls Tryz.prog 17 #[.agg #[.int .i64 h.fl, .int .i64 h.gp, .int .i64 h.ln, .int .i64 h.rf, .int .i64 h.sp, .int .i64 h.pu, .int .i64 h.br, .int .i64 h.dr, .int .i64 h.lv, .int .i64 h.dO, .int .i64 h.ld, .int .i64 h.qu]] w fun e w' => e = .returned (.int .i64 h.fault) ∧ Below w.heap.size w w' := by
  have HH : Hid (HAt (w.alloc (.cells #[.int .i64 h.fl, .int .i64 h.gp, .int .i64 h.ln, .int .i64 h.rf, .int .i64 h.sp, .int .i64 h.pu, .int .i64 h.br, .int .i64 h.dr, .int .i64 h.lv, .int .i64 h.dO, .int .i64 h.ld, .int .i64 h.qu] 25)) w.heap.size h) := HAt.new w h _
  have HB : Hid (Below w.heap.size w (w.alloc (.cells #[.int .i64 h.fl, .int .i64 h.gp, .int .i64 h.ln, .int .i64 h.rf, .int .i64 h.sp, .int .i64 h.pu, .int .i64 h.br, .int .i64 h.dr, .int .i64 h.lv, .int .i64 h.dO, .int .i64 h.ld, .int .i64 h.qu] 25))) := (Below.refl _ _).alloc (Nat.le_refl _) _
  cases hr : h.rangeB with
  | false =>
    have hf : Hid (h.fault = 3) := Hs.fault_out hr
    go_enter Tryz.func17, Tryz.ntmps17
    go_wp2_with (go_at_call 35; refine (isBounded_any h _).mono ?_; rw [hr]; rintro e w1 ⟨rfl, hb⟩; have HH : Hid (HAt w1 w.heap.size h) := HH.out.below hb HH.out.lt; have HB : Hid (Below w.heap.size w w1) := HB.out.trans (hb.mono HB.out.size); obtain ⟨q0, q1, q2, q3, q4, q5, q6, q7, q8, q9, q10, q11⟩ := HH.out; clear hb)
    go_ret
    exact ⟨ret_int hf.out.symm, HB.out⟩
  | true =>
    have HO : Hid h.Ok := Hs.ok_of hr
    by_cases n1 : h.gp < h.apart
    · have hf : Hid (h.fault = 1) := Hs.fault_near hr (Or.inl n1)
      go_enter Tryz.func17, Tryz.ntmps17
      go_wp2_with (first | (go_at_call 35; refine (isBounded_any h _).mono ?_; rw [hr]; rintro e w1 ⟨rfl, hb⟩; have HH : Hid (HAt w1 w.heap.size h) := HH.out.below hb HH.out.lt; have HB : Hid (Below w.heap.size w w1) := HB.out.trans (hb.mono HB.out.size); obtain ⟨q0, q1, q2, q3, q4, q5, q6, q7, q8, q9, q10, q11⟩ := HH.out; clear hb) | (go_at_call 36; refine (spacing_any h HO.out _).mono ?_; rintro e w2 ⟨rfl, hb⟩; have HH : Hid (HAt w2 w.heap.size h) := HH.out.below hb HH.out.lt; have HB : Hid (Below w.heap.size w w2) := HB.out.trans (hb.mono HB.out.size); obtain ⟨q0, q1, q2, q3, q4, q5, q6, q7, q8, q9, q10, q11⟩ := HH.out; clear hb))
      go_ret
      exact ⟨ret_int hf.out.symm, HB.out⟩
    · by_cases n2 : h.rf < h.apart
      · have hf : Hid (h.fault = 1) := Hs.fault_near hr (Or.inr n2)
        go_enter Tryz.func17, Tryz.ntmps17
        go_wp2_with (first | (go_at_call 35; refine (isBounded_any h _).mono ?_; rw [hr]; rintro e w1 ⟨rfl, hb⟩; have HH : Hid (HAt w1 w.heap.size h) := HH.out.below hb HH.out.lt; have HB : Hid (Below w.heap.size w w1) := HB.out.trans (hb.mono HB.out.size); obtain ⟨q0, q1, q2, q3, q4, q5, q6, q7, q8, q9, q10, q11⟩ := HH.out; clear hb) | (go_at_call 36; refine (spacing_any h HO.out _).mono ?_; rintro e w2 ⟨rfl, hb⟩; have HH : Hid (HAt w2 w.heap.size h) := HH.out.below hb HH.out.lt; have HB : Hid (Below w.heap.size w w2) := HB.out.trans (hb.mono HB.out.size); obtain ⟨q0, q1, q2, q3, q4, q5, q6, q7, q8, q9, q10, q11⟩ := HH.out; clear hb))
        go_ret
        exact ⟨ret_int hf.out.symm, HB.out⟩
      · have hf : Hid (h.fault = 0) := Hs.fault_ok hr (by omega)
        go_enter Tryz.func17, Tryz.ntmps17
        go_wp2_with (first | (go_at_call 35; refine (isBounded_any h _).mono ?_; rw [hr]; rintro e w1 ⟨rfl, hb⟩; have HH : Hid (HAt w1 w.heap.size h) := HH.out.below hb HH.out.lt; have HB : Hid (Below w.heap.size w w1) := HB.out.trans (hb.mono HB.out.size); obtain ⟨q0, q1, q2, q3, q4, q5, q6, q7, q8, q9, q10, q11⟩ := HH.out; clear hb) | (go_at_call 36; refine (spacing_any h HO.out _).mono ?_; rintro e w2 ⟨rfl, hb⟩; have HH : Hid (HAt w2 w.heap.size h) := HH.out.below hb HH.out.lt; have HB : Hid (Below w.heap.size w w2) := HB.out.trans (hb.mono HB.out.size); obtain ⟨q0, q1, q2, q3, q4, q5, q6, q7, q8, q9, q10, q11⟩ := HH.out; clear hb))
        go_ret
        exact ⟨ret_int hf.out.symm, HB.out⟩
end Go.Proofs.YtoacnglcneliiaaGreatDoor
