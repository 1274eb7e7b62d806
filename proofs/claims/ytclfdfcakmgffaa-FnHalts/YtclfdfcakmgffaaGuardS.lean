/-
  The program's guard: HaltShaft, SpareOf.
-/
import Derived.Test.YtclfdfcakmgffaaGuardE
import Derived.Test.YtclfdfcakmgffaaCarK
import Derived.Test.YtclfdfcakmgffaaFnd
namespace Go.Proofs.Ytclfdfcakmgffaa
open Go.RowKit Pl
set_option linter.unusedSimpArgs false
set_option linter.unusedVariables false

theorem fieldV (c v : Int) (w : World) : (Instr.field 33 (.agg #[.int .i64 c, .int .i64 v]) 1).run Try.prog w = .ok (.int .i64 v) w := by kernel_rfl
set_option maxRecDepth 20000 in
set_option maxHeartbeats 8000000 in
theorem ticksToHalt_any (h : Hs) (s : Sh) (kl : CarOk h s.lo) (ku : CarOk h s.up) (w : World) :
    Calls Try.prog 49 #[.agg #[.int .i64 h.fl, .int .i64 h.gp, .int .i64 h.ln, .int .i64 h.rf, .int .i64 h.sp, .int .i64 h.pu, .int .i64 h.br, .int .i64 h.dr, .int .i64 h.lv, .int .i64 h.dO, .int .i64 h.ld, .int .i64 h.qu], .agg #[.int .i64 s.lo.pos, .int .i64 s.lo.vel, .int .i64 s.lo.door, .int .i64 s.up.pos, .int .i64 s.up.vel, .int .i64 s.up.door]] w fun e w' => e = .returned (.int .i64 (Hs.haltP h s)) ∧ Below w.heap.size w w' := by
  have o := kl.ok
  have el := car_env kl; have eu := car_env ku
  have b1 := o.br1; have b2 := o.br2; have b3 := o.pu1
  have a1 : 0 ≤ sz s.lo.vel ∧ sz s.lo.vel ≤ 500 := by unfold sz; split <;> omega
  have a2 : 0 ≤ sz s.up.vel ∧ sz s.up.vel ≤ 500 := by unfold sz; split <;> omega
  have fv := fieldV
  have he : Hs.haltP h s = (max (sz s.lo.vel) (sz s.up.vel) + h.br - 1) / h.br := rfl
  clear o kl ku
  have F0 : Hid (HAt ((w.alloc (.cells #[.int .i64 h.fl, .int .i64 h.gp, .int .i64 h.ln, .int .i64 h.rf, .int .i64 h.sp, .int .i64 h.pu, .int .i64 h.br, .int .i64 h.dr, .int .i64 h.lv, .int .i64 h.dO, .int .i64 h.ld, .int .i64 h.qu] 25)).alloc (.cells #[.int .i64 s.lo.pos, .int .i64 s.lo.vel, .int .i64 s.lo.door, .int .i64 s.up.pos, .int .i64 s.up.vel, .int .i64 s.up.door] 40)).drew w.heap.size h) := ((HAt.at_ w h _ _ (by simp)).alloc _).drew
  have F1 : Hid (SW ((w.alloc (.cells #[.int .i64 h.fl, .int .i64 h.gp, .int .i64 h.ln, .int .i64 h.rf, .int .i64 h.sp, .int .i64 h.pu, .int .i64 h.br, .int .i64 h.dr, .int .i64 h.lv, .int .i64 h.dO, .int .i64 h.ld, .int .i64 h.qu] 25)).alloc (.cells #[.int .i64 s.lo.pos, .int .i64 s.lo.vel, .int .i64 s.lo.door, .int .i64 s.up.pos, .int .i64 s.up.vel, .int .i64 s.up.door] 40)).drew (w.heap.size + 1) s) := (SW.at_ (w.alloc (.cells #[.int .i64 h.fl, .int .i64 h.gp, .int .i64 h.ln, .int .i64 h.rf, .int .i64 h.sp, .int .i64 h.pu, .int .i64 h.br, .int .i64 h.dr, .int .i64 h.lv, .int .i64 h.dO, .int .i64 h.ld, .int .i64 h.qu] 25)) s _ _ (by simp)).drew
  have FB : Hid (Below w.heap.size w ((w.alloc (.cells #[.int .i64 h.fl, .int .i64 h.gp, .int .i64 h.ln, .int .i64 h.rf, .int .i64 h.sp, .int .i64 h.pu, .int .i64 h.br, .int .i64 h.dr, .int .i64 h.lv, .int .i64 h.dO, .int .i64 h.ld, .int .i64 h.qu] 25)).alloc (.cells #[.int .i64 s.lo.pos, .int .i64 s.lo.vel, .int .i64 s.lo.door, .int .i64 s.up.pos, .int .i64 s.up.vel, .int .i64 s.up.door] 40)).drew) := (((Below.refl _ _).alloc (Nat.le_refl _) _).alloc (by simp <;> omega) _).drew
  obtain ⟨x0_0, x0_1, x0_2, x0_3, x0_4, x0_5, x0_6, x0_7, x0_8, x0_9, x0_10, x0_11⟩ := F0.out
  obtain ⟨x1_0, x1_1, x1_2, x1_3, x1_4, x1_5, y1_0, y1_1, y1_2, y1_3, y1_4, y1_5⟩ := F1.out
  by_cases k : sz s.lo.vel < sz s.up.vel
  · have hm : max (sz s.lo.vel) (sz s.up.vel) = sz s.up.vel := by omega
    have HE : Hid (Hs.haltP h s = (sz s.up.vel + h.br - 1) / h.br) := by rw [he, hm]; exact rfl
    clear he
    go_enter Try.func49, Try.ntmps49
    go_wp2_with fail
    refine wp_region_held_drew (S := (fun w'' => w''.cell? ⟨w.heap.size, 0, none⟩ = some (.int .i64 h.fl) ∧ w''.cell? ⟨w.heap.size, 1, none⟩ = some (.int .i64 h.gp) ∧ w''.cell? ⟨w.heap.size, 2, none⟩ = some (.int .i64 h.ln) ∧ w''.cell? ⟨w.heap.size, 3, none⟩ = some (.int .i64 h.rf) ∧ w''.cell? ⟨w.heap.size, 4, none⟩ = some (.int .i64 h.sp) ∧ w''.cell? ⟨w.heap.size, 5, none⟩ = some (.int .i64 h.pu) ∧ w''.cell? ⟨w.heap.size, 6, none⟩ = some (.int .i64 h.br) ∧ w''.cell? ⟨w.heap.size, 7, none⟩ = some (.int .i64 h.dr) ∧ w''.cell? ⟨w.heap.size, 8, none⟩ = some (.int .i64 h.lv) ∧ w''.cell? ⟨w.heap.size, 9, none⟩ = some (.int .i64 h.dO) ∧ w''.cell? ⟨w.heap.size, 10, none⟩ = some (.int .i64 h.ld) ∧ w''.cell? ⟨w.heap.size, 11, none⟩ = some (.int .i64 h.qu) ∧ w''.cell? ⟨(w.heap.size + 1), 0, none⟩ = some (.int .i64 s.lo.pos) ∧ w''.cell? ⟨(w.heap.size + 1), 1, none⟩ = some (.int .i64 s.lo.vel) ∧ w''.cell? ⟨(w.heap.size + 1), 2, none⟩ = some (.int .i64 s.lo.door) ∧ w''.cell? ⟨(w.heap.size + 1), 3, none⟩ = some (.int .i64 s.up.pos) ∧ w''.cell? ⟨(w.heap.size + 1), 4, none⟩ = some (.int .i64 s.up.vel) ∧ w''.cell? ⟨(w.heap.size + 1), 5, none⟩ = some (.int .i64 s.up.door))) (by kernel_rfl) (by (try dsimp only); first | exact ⟨x0_0, x0_1, x0_2, x0_3, x0_4, x0_5, x0_6, x0_7, x0_8, x0_9, x0_10, x0_11, x1_0, x1_1, x1_2, x1_3, x1_4, x1_5⟩ | go_keep) (fun hHeld => ?_)
    refine tkz 0 rfl ?_
    refine tkz 1 rfl ?_
    refine tkz 2 rfl ?_
    refine tkz 4 rfl ?_
    refine tkz 5 rfl ?_
    refine tkz 6 rfl ?_
    refine wpAnyH_ready (rs := [3]) (by kernel_rfl) (by simp) ?_
    refine AllReadyH.cons rfl (fun K hK => ?_) AllReadyH.nil
    go_simp
    refine (sizeOf_any _ (by omega) (by omega) _).mono ?_
    rintro e w' ⟨rfl, hw⟩
    obtain rfl := hw.symm
    clear hw
    try go_wp2_with fail
    refine hK.out _ _ (by (try dsimp only); go_keep) (fun hHeld => ?_)
    clear hK K
    try simp only [Act.put, List.getElem_toArray, List.getElem_cons_succ, List.getElem_cons_zero, List.setIfInBounds_toArray, List.set_cons_zero, List.set_cons_succ]
    refine wpAnyH_ready (rs := [7]) (by kernel_rfl) (by simp) ?_
    refine AllReadyH.cons rfl (fun K hK => ?_) AllReadyH.nil
    go_simp
    refine (sizeOf_any _ (by omega) (by omega) _).mono ?_
    rintro e w' ⟨rfl, hw⟩
    obtain rfl := hw.symm
    clear hw
    try go_wp2_with fail
    refine hK.out _ _ (by (try dsimp only); go_keep) (fun hHeld => ?_)
    clear hK K
    try simp only [Act.put, List.getElem_toArray, List.getElem_cons_succ, List.getElem_cons_zero, List.setIfInBounds_toArray, List.set_cons_zero, List.set_cons_succ]
    refine wpAnyH_ready (rs := [8]) (by kernel_rfl) (by simp) ?_
    refine AllReadyH.cons rfl (fun K hK => ?_) AllReadyH.nil
    go_simp
    refine hK.out _ _ (by (try dsimp only); go_keep) (fun hHeld => ?_)
    clear hK K
    try simp only [Act.put, List.getElem_toArray, List.getElem_cons_succ, List.getElem_cons_zero, List.setIfInBounds_toArray, List.set_cons_zero, List.set_cons_succ]
    refine tkz 9 rfl ?_
    refine wpAnyH_done (by kernel_rfl) ?_ _
    go_wp2_with (go_at_call 74; refine (implStopTicks_in (sz s.up.vel) h.br (by omega) (by omega) (by omega) (by omega) _).mono ?_; rintro e w' ⟨rfl, rfl⟩)
    go_ret
    exact ⟨ret_int HE.out.symm, FB.out.alloc FB.out.size _⟩
  · have hm : max (sz s.lo.vel) (sz s.up.vel) = sz s.lo.vel := by omega
    have HE : Hid (Hs.haltP h s = (sz s.lo.vel + h.br - 1) / h.br) := by rw [he, hm]; exact rfl
    clear he
    go_enter Try.func49, Try.ntmps49
    go_wp2_with fail
    refine wp_region_held_drew (S := (fun w'' => w''.cell? ⟨w.heap.size, 0, none⟩ = some (.int .i64 h.fl) ∧ w''.cell? ⟨w.heap.size, 1, none⟩ = some (.int .i64 h.gp) ∧ w''.cell? ⟨w.heap.size, 2, none⟩ = some (.int .i64 h.ln) ∧ w''.cell? ⟨w.heap.size, 3, none⟩ = some (.int .i64 h.rf) ∧ w''.cell? ⟨w.heap.size, 4, none⟩ = some (.int .i64 h.sp) ∧ w''.cell? ⟨w.heap.size, 5, none⟩ = some (.int .i64 h.pu) ∧ w''.cell? ⟨w.heap.size, 6, none⟩ = some (.int .i64 h.br) ∧ w''.cell? ⟨w.heap.size, 7, none⟩ = some (.int .i64 h.dr) ∧ w''.cell? ⟨w.heap.size, 8, none⟩ = some (.int .i64 h.lv) ∧ w''.cell? ⟨w.heap.size, 9, none⟩ = some (.int .i64 h.dO) ∧ w''.cell? ⟨w.heap.size, 10, none⟩ = some (.int .i64 h.ld) ∧ w''.cell? ⟨w.heap.size, 11, none⟩ = some (.int .i64 h.qu) ∧ w''.cell? ⟨(w.heap.size + 1), 0, none⟩ = some (.int .i64 s.lo.pos) ∧ w''.cell? ⟨(w.heap.size + 1), 1, none⟩ = some (.int .i64 s.lo.vel) ∧ w''.cell? ⟨(w.heap.size + 1), 2, none⟩ = some (.int .i64 s.lo.door) ∧ w''.cell? ⟨(w.heap.size + 1), 3, none⟩ = some (.int .i64 s.up.pos) ∧ w''.cell? ⟨(w.heap.size + 1), 4, none⟩ = some (.int .i64 s.up.vel) ∧ w''.cell? ⟨(w.heap.size + 1), 5, none⟩ = some (.int .i64 s.up.door))) (by kernel_rfl) (by (try dsimp only); first | exact ⟨x0_0, x0_1, x0_2, x0_3, x0_4, x0_5, x0_6, x0_7, x0_8, x0_9, x0_10, x0_11, x1_0, x1_1, x1_2, x1_3, x1_4, x1_5⟩ | go_keep) (fun hHeld => ?_)
    refine tkz 0 rfl ?_
    refine tkz 1 rfl ?_
    refine tkz 2 rfl ?_
    refine tkz 4 rfl ?_
    refine tkz 5 rfl ?_
    refine tkz 6 rfl ?_
    refine wpAnyH_ready (rs := [3]) (by kernel_rfl) (by simp) ?_
    refine AllReadyH.cons rfl (fun K hK => ?_) AllReadyH.nil
    go_simp
    refine (sizeOf_any _ (by omega) (by omega) _).mono ?_
    rintro e w' ⟨rfl, hw⟩
    obtain rfl := hw.symm
    clear hw
    try go_wp2_with fail
    refine hK.out _ _ (by (try dsimp only); go_keep) (fun hHeld => ?_)
    clear hK K
    try simp only [Act.put, List.getElem_toArray, List.getElem_cons_succ, List.getElem_cons_zero, List.setIfInBounds_toArray, List.set_cons_zero, List.set_cons_succ]
    refine wpAnyH_ready (rs := [7]) (by kernel_rfl) (by simp) ?_
    refine AllReadyH.cons rfl (fun K hK => ?_) AllReadyH.nil
    go_simp
    refine (sizeOf_any _ (by omega) (by omega) _).mono ?_
    rintro e w' ⟨rfl, hw⟩
    obtain rfl := hw.symm
    clear hw
    try go_wp2_with fail
    refine hK.out _ _ (by (try dsimp only); go_keep) (fun hHeld => ?_)
    clear hK K
    try simp only [Act.put, List.getElem_toArray, List.getElem_cons_succ, List.getElem_cons_zero, List.setIfInBounds_toArray, List.set_cons_zero, List.set_cons_succ]
    refine wpAnyH_ready (rs := [8]) (by kernel_rfl) (by simp) ?_
    refine AllReadyH.cons rfl (fun K hK => ?_) AllReadyH.nil
    go_simp
    refine hK.out _ _ (by (try dsimp only); go_keep) (fun hHeld => ?_)
    clear hK K
    try simp only [Act.put, List.getElem_toArray, List.getElem_cons_succ, List.getElem_cons_zero, List.setIfInBounds_toArray, List.set_cons_zero, List.set_cons_succ]
    refine tkz 9 rfl ?_
    refine wpAnyH_done (by kernel_rfl) ?_ _
    go_wp2_with (go_at_call 74; refine (implStopTicks_in (sz s.lo.vel) h.br (by omega) (by omega) (by omega) (by omega) _).mono ?_; rintro e w' ⟨rfl, rfl⟩)
    go_ret
    exact ⟨ret_int HE.out.symm, FB.out.alloc FB.out.size _⟩
set_option maxRecDepth 20000 in
set_option maxHeartbeats 8000000 in
theorem ofShaft_no (h : Hs) (s : Sh) (hs : h.shaft s ≠ 0) (k : Nat) (w : World) :
    Calls Try.prog 42 #[.agg #[.int .i64 h.fl, .int .i64 h.gp, .int .i64 h.ln, .int .i64 h.rf, .int .i64 h.sp, .int .i64 h.pu, .int .i64 h.br, .int .i64 h.dr, .int .i64 h.lv, .int .i64 h.dO, .int .i64 h.ld, .int .i64 h.qu], .agg #[.int .i64 s.lo.pos, .int .i64 s.lo.vel, .int .i64 s.lo.door, .int .i64 s.up.pos, .int .i64 s.up.vel, .int .i64 s.up.door], .func (.func k) #[] #[]] w (isAns w (h.shaft s) 0) := by
  have hn : (h.shaft s != 0) = true := by simpa using hs
  clear hs
  have F0 : Hid (HAt (((w.alloc (.cells #[.int .i64 h.fl, .int .i64 h.gp, .int .i64 h.ln, .int .i64 h.rf, .int .i64 h.sp, .int .i64 h.pu, .int .i64 h.br, .int .i64 h.dr, .int .i64 h.lv, .int .i64 h.dO, .int .i64 h.ld, .int .i64 h.qu] 25)).alloc (.cells #[.int .i64 s.lo.pos, .int .i64 s.lo.vel, .int .i64 s.lo.door, .int .i64 s.up.pos, .int .i64 s.up.vel, .int .i64 s.up.door] 40)).alloc (.cells #[.int .i64 0, .int .i64 0] 33)) w.heap.size h) := ((HAt.at_ w h _ _ (by simp)).alloc _).alloc _
  have F1 : Hid (SW (((w.alloc (.cells #[.int .i64 h.fl, .int .i64 h.gp, .int .i64 h.ln, .int .i64 h.rf, .int .i64 h.sp, .int .i64 h.pu, .int .i64 h.br, .int .i64 h.dr, .int .i64 h.lv, .int .i64 h.dO, .int .i64 h.ld, .int .i64 h.qu] 25)).alloc (.cells #[.int .i64 s.lo.pos, .int .i64 s.lo.vel, .int .i64 s.lo.door, .int .i64 s.up.pos, .int .i64 s.up.vel, .int .i64 s.up.door] 40)).alloc (.cells #[.int .i64 0, .int .i64 0] 33)) (w.heap.size + 1) s) := (SW.at_ (w.alloc (.cells #[.int .i64 h.fl, .int .i64 h.gp, .int .i64 h.ln, .int .i64 h.rf, .int .i64 h.sp, .int .i64 h.pu, .int .i64 h.br, .int .i64 h.dr, .int .i64 h.lv, .int .i64 h.dO, .int .i64 h.ld, .int .i64 h.qu] 25)) s _ _ (by simp)).alloc _
  have F2 : Hid (R2 (((w.alloc (.cells #[.int .i64 h.fl, .int .i64 h.gp, .int .i64 h.ln, .int .i64 h.rf, .int .i64 h.sp, .int .i64 h.pu, .int .i64 h.br, .int .i64 h.dr, .int .i64 h.lv, .int .i64 h.dO, .int .i64 h.ld, .int .i64 h.qu] 25)).alloc (.cells #[.int .i64 s.lo.pos, .int .i64 s.lo.vel, .int .i64 s.lo.door, .int .i64 s.up.pos, .int .i64 s.up.vel, .int .i64 s.up.door] 40)).alloc (.cells #[.int .i64 0, .int .i64 0] 33)) (w.heap.size + 2)) := R2.at_ ((w.alloc (.cells #[.int .i64 h.fl, .int .i64 h.gp, .int .i64 h.ln, .int .i64 h.rf, .int .i64 h.sp, .int .i64 h.pu, .int .i64 h.br, .int .i64 h.dr, .int .i64 h.lv, .int .i64 h.dO, .int .i64 h.ld, .int .i64 h.qu] 25)).alloc (.cells #[.int .i64 s.lo.pos, .int .i64 s.lo.vel, .int .i64 s.lo.door, .int .i64 s.up.pos, .int .i64 s.up.vel, .int .i64 s.up.door] 40)) _ _ (by simp)
  have FB : Hid (Below w.heap.size w (((w.alloc (.cells #[.int .i64 h.fl, .int .i64 h.gp, .int .i64 h.ln, .int .i64 h.rf, .int .i64 h.sp, .int .i64 h.pu, .int .i64 h.br, .int .i64 h.dr, .int .i64 h.lv, .int .i64 h.dO, .int .i64 h.ld, .int .i64 h.qu] 25)).alloc (.cells #[.int .i64 s.lo.pos, .int .i64 s.lo.vel, .int .i64 s.lo.door, .int .i64 s.up.pos, .int .i64 s.up.vel, .int .i64 s.up.door] 40)).alloc (.cells #[.int .i64 0, .int .i64 0] 33))) := ((((Below.refl _ _).alloc (Nat.le_refl _) _).alloc (by simp <;> omega) _).alloc (by simp <;> omega) _)
  go_enter Try.func42, Try.ntmps42
  go_wp2_with (go_at_call 17; refine (implShaftFault_any h s _).mono ?_; rintro e w1 ⟨rfl, hb⟩; have F0 : Hid (HAt w1 w.heap.size h) := F0.out.below hb F0.out.lt; have F1 : Hid (SW w1 (w.heap.size + 1) s) := F1.out.below hb F1.out.lt; have F2 : Hid (R2 w1 (w.heap.size + 2)) := F2.out.below hb F2.out.lt; have FB : Hid (Below w.heap.size w w1) := FB.out.trans (hb.mono FB.out.size); obtain ⟨x0_0, x0_1, x0_2, x0_3, x0_4, x0_5, x0_6, x0_7, x0_8, x0_9, x0_10, x0_11⟩ := F0.out; obtain ⟨x1_0, x1_1, x1_2, x1_3, x1_4, x1_5, y1_0, y1_1, y1_2, y1_3, y1_4, y1_5⟩ := F1.out; obtain ⟨x2_0, x2_1, y2_0, y2_1⟩ := F2.out; clear hb)
  exact bodyPost_ret (v := .agg #[.int .i64 (h.shaft s), .int .i64 0]) (by simp [results, Try.results42, go_sem, x2_0, x2_1]) rfl ⟨rfl, by repeat (first | exact FB.out | (refine Below.setCell ?_ (by simp <;> omega) _))⟩
set_option maxRecDepth 20000 in
set_option maxHeartbeats 8000000 in
theorem ofShaft_halt (h : Hs) (s : Sh) (hs : h.shaft s = 0) (q : Int) (hq : Hs.haltP h s = q) (w : World) :
    Calls Try.prog 42 #[.agg #[.int .i64 h.fl, .int .i64 h.gp, .int .i64 h.ln, .int .i64 h.rf, .int .i64 h.sp, .int .i64 h.pu, .int .i64 h.br, .int .i64 h.dr, .int .i64 h.lv, .int .i64 h.dO, .int .i64 h.ld, .int .i64 h.qu], .agg #[.int .i64 s.lo.pos, .int .i64 s.lo.vel, .int .i64 s.lo.door, .int .i64 s.up.pos, .int .i64 s.up.vel, .int .i64 s.up.door], .func (.func 49) #[] #[]] w (isAns w 0 q) := by
  have HL : Hid (CarOk h s.lo) := Hs.car_zero (shaft_parts hs).1
  have HU : Hid (CarOk h s.up) := Hs.car_zero (shaft_parts hs).2.1
  have HQ : Hid (Hs.haltP h s = q) := hq
  clear hq
  have F0 : Hid (HAt (((w.alloc (.cells #[.int .i64 h.fl, .int .i64 h.gp, .int .i64 h.ln, .int .i64 h.rf, .int .i64 h.sp, .int .i64 h.pu, .int .i64 h.br, .int .i64 h.dr, .int .i64 h.lv, .int .i64 h.dO, .int .i64 h.ld, .int .i64 h.qu] 25)).alloc (.cells #[.int .i64 s.lo.pos, .int .i64 s.lo.vel, .int .i64 s.lo.door, .int .i64 s.up.pos, .int .i64 s.up.vel, .int .i64 s.up.door] 40)).alloc (.cells #[.int .i64 0, .int .i64 0] 33)) w.heap.size h) := ((HAt.at_ w h _ _ (by simp)).alloc _).alloc _
  have F1 : Hid (SW (((w.alloc (.cells #[.int .i64 h.fl, .int .i64 h.gp, .int .i64 h.ln, .int .i64 h.rf, .int .i64 h.sp, .int .i64 h.pu, .int .i64 h.br, .int .i64 h.dr, .int .i64 h.lv, .int .i64 h.dO, .int .i64 h.ld, .int .i64 h.qu] 25)).alloc (.cells #[.int .i64 s.lo.pos, .int .i64 s.lo.vel, .int .i64 s.lo.door, .int .i64 s.up.pos, .int .i64 s.up.vel, .int .i64 s.up.door] 40)).alloc (.cells #[.int .i64 0, .int .i64 0] 33)) (w.heap.size + 1) s) := (SW.at_ (w.alloc (.cells #[.int .i64 h.fl, .int .i64 h.gp, .int .i64 h.ln, .int .i64 h.rf, .int .i64 h.sp, .int .i64 h.pu, .int .i64 h.br, .int .i64 h.dr, .int .i64 h.lv, .int .i64 h.dO, .int .i64 h.ld, .int .i64 h.qu] 25)) s _ _ (by simp)).alloc _
  have F2 : Hid (R2 (((w.alloc (.cells #[.int .i64 h.fl, .int .i64 h.gp, .int .i64 h.ln, .int .i64 h.rf, .int .i64 h.sp, .int .i64 h.pu, .int .i64 h.br, .int .i64 h.dr, .int .i64 h.lv, .int .i64 h.dO, .int .i64 h.ld, .int .i64 h.qu] 25)).alloc (.cells #[.int .i64 s.lo.pos, .int .i64 s.lo.vel, .int .i64 s.lo.door, .int .i64 s.up.pos, .int .i64 s.up.vel, .int .i64 s.up.door] 40)).alloc (.cells #[.int .i64 0, .int .i64 0] 33)) (w.heap.size + 2)) := R2.at_ ((w.alloc (.cells #[.int .i64 h.fl, .int .i64 h.gp, .int .i64 h.ln, .int .i64 h.rf, .int .i64 h.sp, .int .i64 h.pu, .int .i64 h.br, .int .i64 h.dr, .int .i64 h.lv, .int .i64 h.dO, .int .i64 h.ld, .int .i64 h.qu] 25)).alloc (.cells #[.int .i64 s.lo.pos, .int .i64 s.lo.vel, .int .i64 s.lo.door, .int .i64 s.up.pos, .int .i64 s.up.vel, .int .i64 s.up.door] 40)) _ _ (by simp)
  have FB : Hid (Below w.heap.size w (((w.alloc (.cells #[.int .i64 h.fl, .int .i64 h.gp, .int .i64 h.ln, .int .i64 h.rf, .int .i64 h.sp, .int .i64 h.pu, .int .i64 h.br, .int .i64 h.dr, .int .i64 h.lv, .int .i64 h.dO, .int .i64 h.ld, .int .i64 h.qu] 25)).alloc (.cells #[.int .i64 s.lo.pos, .int .i64 s.lo.vel, .int .i64 s.lo.door, .int .i64 s.up.pos, .int .i64 s.up.vel, .int .i64 s.up.door] 40)).alloc (.cells #[.int .i64 0, .int .i64 0] 33))) := ((((Below.refl _ _).alloc (Nat.le_refl _) _).alloc (by simp <;> omega) _).alloc (by simp <;> omega) _)
  go_enter Try.func42, Try.ntmps42
  go_wp2_with (first | (go_at_call 17; refine (implShaftFault_any h s _).mono ?_; rw [hs]; rintro e w1 ⟨rfl, hb⟩; have F0 : Hid (HAt w1 w.heap.size h) := F0.out.below hb F0.out.lt; have F1 : Hid (SW w1 (w.heap.size + 1) s) := F1.out.below hb F1.out.lt; have F2 : Hid (R2 w1 (w.heap.size + 2)) := F2.out.below hb F2.out.lt; have FB : Hid (Below w.heap.size w w1) := FB.out.trans (hb.mono FB.out.size); obtain ⟨x0_0, x0_1, x0_2, x0_3, x0_4, x0_5, x0_6, x0_7, x0_8, x0_9, x0_10, x0_11⟩ := F0.out; obtain ⟨x1_0, x1_1, x1_2, x1_3, x1_4, x1_5, y1_0, y1_1, y1_2, y1_3, y1_4, y1_5⟩ := F1.out; obtain ⟨x2_0, x2_1, y2_0, y2_1⟩ := F2.out; clear hb) | (go_at_call 49; refine (ticksToHalt_any h s HL.out HU.out _).mono ?_; rw [HQ.out]; rintro e w2 ⟨rfl, hb⟩; have F0 : Hid (HAt w2 w.heap.size h) := F0.out.below hb F0.out.lt; have F1 : Hid (SW w2 (w.heap.size + 1) s) := F1.out.below hb F1.out.lt; have F2 : Hid (R2 w2 (w.heap.size + 2)) := F2.out.below hb F2.out.lt; have FB : Hid (Below w.heap.size w w2) := FB.out.trans (hb.mono FB.out.size); obtain ⟨x0_0, x0_1, x0_2, x0_3, x0_4, x0_5, x0_6, x0_7, x0_8, x0_9, x0_10, x0_11⟩ := F0.out; obtain ⟨x1_0, x1_1, x1_2, x1_3, x1_4, x1_5, y1_0, y1_1, y1_2, y1_3, y1_4, y1_5⟩ := F1.out; obtain ⟨x2_0, x2_1, y2_0, y2_1⟩ := F2.out; clear hb))
  exact bodyPost_ret (v := .agg #[.int .i64 0, .int .i64 q]) (by simp [results, Try.results42, go_sem, x2_0, x2_1]) rfl ⟨rfl, by repeat (first | exact FB.out | (refine Below.setCell ?_ (by simp <;> omega) _))⟩
theorem ofShaft_haltV (h : Hs) (s : Sh) (w : World) :
    Calls Try.prog 42 #[.agg #[.int .i64 h.fl, .int .i64 h.gp, .int .i64 h.ln, .int .i64 h.rf, .int .i64 h.sp, .int .i64 h.pu, .int .i64 h.br, .int .i64 h.dr, .int .i64 h.lv, .int .i64 h.dO, .int .i64 h.ld, .int .i64 h.qu], .agg #[.int .i64 s.lo.pos, .int .i64 s.lo.vel, .int .i64 s.lo.door, .int .i64 s.up.pos, .int .i64 s.up.vel, .int .i64 s.up.door], .func (.func 49) #[] #[]] w (isAns w (h.shaft s) (Hs.haltV h s)) := by
  unfold Hs.haltV
  by_cases hs : h.shaft s = 0
  · rw [if_pos hs, hs]; exact ofShaft_halt h s hs _ rfl w
  · rw [if_neg hs]; exact ofShaft_no h s hs _ w
set_option maxRecDepth 20000 in
set_option maxHeartbeats 8000000 in
theorem implHaltShaft_any (h : Hs) (s : Sh) (w : World) :
    Calls Try.prog 19 #[.agg #[.int .i64 h.fl, .int .i64 h.gp, .int .i64 h.ln, .int .i64 h.rf, .int .i64 h.sp, .int .i64 h.pu, .int .i64 h.br, .int .i64 h.dr, .int .i64 h.lv, .int .i64 h.dO, .int .i64 h.ld, .int .i64 h.qu], .agg #[.int .i64 s.lo.pos, .int .i64 s.lo.vel, .int .i64 s.lo.door, .int .i64 s.up.pos, .int .i64 s.up.vel, .int .i64 s.up.door]] w (isAns w (h.shaft s) (Hs.haltV h s)) := by
  have F0 : Hid (HAt (((w.alloc (.cells #[.int .i64 h.fl, .int .i64 h.gp, .int .i64 h.ln, .int .i64 h.rf, .int .i64 h.sp, .int .i64 h.pu, .int .i64 h.br, .int .i64 h.dr, .int .i64 h.lv, .int .i64 h.dO, .int .i64 h.ld, .int .i64 h.qu] 25)).alloc (.cells #[.int .i64 s.lo.pos, .int .i64 s.lo.vel, .int .i64 s.lo.door, .int .i64 s.up.pos, .int .i64 s.up.vel, .int .i64 s.up.door] 40)).alloc (.cells #[.int .i64 0, .int .i64 0] 33)) w.heap.size h) := ((HAt.at_ w h _ _ (by simp)).alloc _).alloc _
  have F1 : Hid (SW (((w.alloc (.cells #[.int .i64 h.fl, .int .i64 h.gp, .int .i64 h.ln, .int .i64 h.rf, .int .i64 h.sp, .int .i64 h.pu, .int .i64 h.br, .int .i64 h.dr, .int .i64 h.lv, .int .i64 h.dO, .int .i64 h.ld, .int .i64 h.qu] 25)).alloc (.cells #[.int .i64 s.lo.pos, .int .i64 s.lo.vel, .int .i64 s.lo.door, .int .i64 s.up.pos, .int .i64 s.up.vel, .int .i64 s.up.door] 40)).alloc (.cells #[.int .i64 0, .int .i64 0] 33)) (w.heap.size + 1) s) := (SW.at_ (w.alloc (.cells #[.int .i64 h.fl, .int .i64 h.gp, .int .i64 h.ln, .int .i64 h.rf, .int .i64 h.sp, .int .i64 h.pu, .int .i64 h.br, .int .i64 h.dr, .int .i64 h.lv, .int .i64 h.dO, .int .i64 h.ld, .int .i64 h.qu] 25)) s _ _ (by simp)).alloc _
  have F2 : Hid (R2 (((w.alloc (.cells #[.int .i64 h.fl, .int .i64 h.gp, .int .i64 h.ln, .int .i64 h.rf, .int .i64 h.sp, .int .i64 h.pu, .int .i64 h.br, .int .i64 h.dr, .int .i64 h.lv, .int .i64 h.dO, .int .i64 h.ld, .int .i64 h.qu] 25)).alloc (.cells #[.int .i64 s.lo.pos, .int .i64 s.lo.vel, .int .i64 s.lo.door, .int .i64 s.up.pos, .int .i64 s.up.vel, .int .i64 s.up.door] 40)).alloc (.cells #[.int .i64 0, .int .i64 0] 33)) (w.heap.size + 2)) := R2.at_ ((w.alloc (.cells #[.int .i64 h.fl, .int .i64 h.gp, .int .i64 h.ln, .int .i64 h.rf, .int .i64 h.sp, .int .i64 h.pu, .int .i64 h.br, .int .i64 h.dr, .int .i64 h.lv, .int .i64 h.dO, .int .i64 h.ld, .int .i64 h.qu] 25)).alloc (.cells #[.int .i64 s.lo.pos, .int .i64 s.lo.vel, .int .i64 s.lo.door, .int .i64 s.up.pos, .int .i64 s.up.vel, .int .i64 s.up.door] 40)) _ _ (by simp)
  have FB : Hid (Below w.heap.size w (((w.alloc (.cells #[.int .i64 h.fl, .int .i64 h.gp, .int .i64 h.ln, .int .i64 h.rf, .int .i64 h.sp, .int .i64 h.pu, .int .i64 h.br, .int .i64 h.dr, .int .i64 h.lv, .int .i64 h.dO, .int .i64 h.ld, .int .i64 h.qu] 25)).alloc (.cells #[.int .i64 s.lo.pos, .int .i64 s.lo.vel, .int .i64 s.lo.door, .int .i64 s.up.pos, .int .i64 s.up.vel, .int .i64 s.up.door] 40)).alloc (.cells #[.int .i64 0, .int .i64 0] 33))) := ((((Below.refl _ _).alloc (Nat.le_refl _) _).alloc (by simp <;> omega) _).alloc (by simp <;> omega) _)
  go_enter Try.func19, Try.ntmps19
  go_wp2_with (go_at_call 42; refine (ofShaft_haltV h s _).mono ?_; rintro e w1 ⟨rfl, hb⟩; have F0 : Hid (HAt w1 w.heap.size h) := F0.out.below hb F0.out.lt; have F1 : Hid (SW w1 (w.heap.size + 1) s) := F1.out.below hb F1.out.lt; have F2 : Hid (R2 w1 (w.heap.size + 2)) := F2.out.below hb F2.out.lt; have FB : Hid (Below w.heap.size w w1) := FB.out.trans (hb.mono FB.out.size); obtain ⟨x0_0, x0_1, x0_2, x0_3, x0_4, x0_5, x0_6, x0_7, x0_8, x0_9, x0_10, x0_11⟩ := F0.out; obtain ⟨x1_0, x1_1, x1_2, x1_3, x1_4, x1_5, y1_0, y1_1, y1_2, y1_3, y1_4, y1_5⟩ := F1.out; obtain ⟨x2_0, x2_1, y2_0, y2_1⟩ := F2.out; clear hb)
  exact bodyPost_ret (v := .agg #[.int .i64 (h.shaft s), .int .i64 (Hs.haltV h s)]) (by simp [results, Try.results19, go_sem, x2_0, x2_1]) rfl ⟨rfl, by repeat (first | exact FB.out | (refine Below.setCell ?_ (by simp <;> omega) _))⟩
set_option maxRecDepth 20000 in
set_option maxHeartbeats 8000000 in
theorem ofShaft_spare (h : Hs) (s : Sh) (hs : h.shaft s = 0) (q : Int) (hq : Hs.spareP h s = q) (w : World) :
    Calls Try.prog 42 #[.agg #[.int .i64 h.fl, .int .i64 h.gp, .int .i64 h.ln, .int .i64 h.rf, .int .i64 h.sp, .int .i64 h.pu, .int .i64 h.br, .int .i64 h.dr, .int .i64 h.lv, .int .i64 h.dO, .int .i64 h.ld, .int .i64 h.qu], .agg #[.int .i64 s.lo.pos, .int .i64 s.lo.vel, .int .i64 s.lo.door, .int .i64 s.up.pos, .int .i64 s.up.vel, .int .i64 s.up.door], .func (.func 43) #[] #[]] w (isAns w 0 q) := by
  have HL : Hid (h.car s.lo = 0) := (shaft_parts hs).1
  have HU : Hid (h.car s.up = 0) := (shaft_parts hs).2.1
  have HQ : Hid (Hs.spareP h s = q) := hq
  clear hq
  have F0 : Hid (HAt (((w.alloc (.cells #[.int .i64 h.fl, .int .i64 h.gp, .int .i64 h.ln, .int .i64 h.rf, .int .i64 h.sp, .int .i64 h.pu, .int .i64 h.br, .int .i64 h.dr, .int .i64 h.lv, .int .i64 h.dO, .int .i64 h.ld, .int .i64 h.qu] 25)).alloc (.cells #[.int .i64 s.lo.pos, .int .i64 s.lo.vel, .int .i64 s.lo.door, .int .i64 s.up.pos, .int .i64 s.up.vel, .int .i64 s.up.door] 40)).alloc (.cells #[.int .i64 0, .int .i64 0] 33)) w.heap.size h) := ((HAt.at_ w h _ _ (by simp)).alloc _).alloc _
  have F1 : Hid (SW (((w.alloc (.cells #[.int .i64 h.fl, .int .i64 h.gp, .int .i64 h.ln, .int .i64 h.rf, .int .i64 h.sp, .int .i64 h.pu, .int .i64 h.br, .int .i64 h.dr, .int .i64 h.lv, .int .i64 h.dO, .int .i64 h.ld, .int .i64 h.qu] 25)).alloc (.cells #[.int .i64 s.lo.pos, .int .i64 s.lo.vel, .int .i64 s.lo.door, .int .i64 s.up.pos, .int .i64 s.up.vel, .int .i64 s.up.door] 40)).alloc (.cells #[.int .i64 0, .int .i64 0] 33)) (w.heap.size + 1) s) := (SW.at_ (w.alloc (.cells #[.int .i64 h.fl, .int .i64 h.gp, .int .i64 h.ln, .int .i64 h.rf, .int .i64 h.sp, .int .i64 h.pu, .int .i64 h.br, .int .i64 h.dr, .int .i64 h.lv, .int .i64 h.dO, .int .i64 h.ld, .int .i64 h.qu] 25)) s _ _ (by simp)).alloc _
  have F2 : Hid (R2 (((w.alloc (.cells #[.int .i64 h.fl, .int .i64 h.gp, .int .i64 h.ln, .int .i64 h.rf, .int .i64 h.sp, .int .i64 h.pu, .int .i64 h.br, .int .i64 h.dr, .int .i64 h.lv, .int .i64 h.dO, .int .i64 h.ld, .int .i64 h.qu] 25)).alloc (.cells #[.int .i64 s.lo.pos, .int .i64 s.lo.vel, .int .i64 s.lo.door, .int .i64 s.up.pos, .int .i64 s.up.vel, .int .i64 s.up.door] 40)).alloc (.cells #[.int .i64 0, .int .i64 0] 33)) (w.heap.size + 2)) := R2.at_ ((w.alloc (.cells #[.int .i64 h.fl, .int .i64 h.gp, .int .i64 h.ln, .int .i64 h.rf, .int .i64 h.sp, .int .i64 h.pu, .int .i64 h.br, .int .i64 h.dr, .int .i64 h.lv, .int .i64 h.dO, .int .i64 h.ld, .int .i64 h.qu] 25)).alloc (.cells #[.int .i64 s.lo.pos, .int .i64 s.lo.vel, .int .i64 s.lo.door, .int .i64 s.up.pos, .int .i64 s.up.vel, .int .i64 s.up.door] 40)) _ _ (by simp)
  have FB : Hid (Below w.heap.size w (((w.alloc (.cells #[.int .i64 h.fl, .int .i64 h.gp, .int .i64 h.ln, .int .i64 h.rf, .int .i64 h.sp, .int .i64 h.pu, .int .i64 h.br, .int .i64 h.dr, .int .i64 h.lv, .int .i64 h.dO, .int .i64 h.ld, .int .i64 h.qu] 25)).alloc (.cells #[.int .i64 s.lo.pos, .int .i64 s.lo.vel, .int .i64 s.lo.door, .int .i64 s.up.pos, .int .i64 s.up.vel, .int .i64 s.up.door] 40)).alloc (.cells #[.int .i64 0, .int .i64 0] 33))) := ((((Below.refl _ _).alloc (Nat.le_refl _) _).alloc (by simp <;> omega) _).alloc (by simp <;> omega) _)
  go_enter Try.func42, Try.ntmps42
  go_wp2_with (first | (go_at_call 17; refine (implShaftFault_any h s _).mono ?_; rw [hs]; rintro e w1 ⟨rfl, hb⟩; have F0 : Hid (HAt w1 w.heap.size h) := F0.out.below hb F0.out.lt; have F1 : Hid (SW w1 (w.heap.size + 1) s) := F1.out.below hb F1.out.lt; have F2 : Hid (R2 w1 (w.heap.size + 2)) := F2.out.below hb F2.out.lt; have FB : Hid (Below w.heap.size w w1) := FB.out.trans (hb.mono FB.out.size); obtain ⟨x0_0, x0_1, x0_2, x0_3, x0_4, x0_5, x0_6, x0_7, x0_8, x0_9, x0_10, x0_11⟩ := F0.out; obtain ⟨x1_0, x1_1, x1_2, x1_3, x1_4, x1_5, y1_0, y1_1, y1_2, y1_3, y1_4, y1_5⟩ := F1.out; obtain ⟨x2_0, x2_1, y2_0, y2_1⟩ := F2.out; clear hb) | (go_at_call 43; refine (spareRoom_any h s HL.out HU.out _).mono ?_; rw [show h.lo s.up.pos s.up.vel - h.hi s.lo.pos s.lo.vel - h.ln = q from HQ.out]; rintro e w2 ⟨rfl, hb⟩; have F0 : Hid (HAt w2 w.heap.size h) := F0.out.below hb F0.out.lt; have F1 : Hid (SW w2 (w.heap.size + 1) s) := F1.out.below hb F1.out.lt; have F2 : Hid (R2 w2 (w.heap.size + 2)) := F2.out.below hb F2.out.lt; have FB : Hid (Below w.heap.size w w2) := FB.out.trans (hb.mono FB.out.size); obtain ⟨x0_0, x0_1, x0_2, x0_3, x0_4, x0_5, x0_6, x0_7, x0_8, x0_9, x0_10, x0_11⟩ := F0.out; obtain ⟨x1_0, x1_1, x1_2, x1_3, x1_4, x1_5, y1_0, y1_1, y1_2, y1_3, y1_4, y1_5⟩ := F1.out; obtain ⟨x2_0, x2_1, y2_0, y2_1⟩ := F2.out; clear hb))
  exact bodyPost_ret (v := .agg #[.int .i64 0, .int .i64 q]) (by simp [results, Try.results42, go_sem, x2_0, x2_1]) rfl ⟨rfl, by repeat (first | exact FB.out | (refine Below.setCell ?_ (by simp <;> omega) _))⟩
theorem ofShaft_spareV (h : Hs) (s : Sh) (w : World) :
    Calls Try.prog 42 #[.agg #[.int .i64 h.fl, .int .i64 h.gp, .int .i64 h.ln, .int .i64 h.rf, .int .i64 h.sp, .int .i64 h.pu, .int .i64 h.br, .int .i64 h.dr, .int .i64 h.lv, .int .i64 h.dO, .int .i64 h.ld, .int .i64 h.qu], .agg #[.int .i64 s.lo.pos, .int .i64 s.lo.vel, .int .i64 s.lo.door, .int .i64 s.up.pos, .int .i64 s.up.vel, .int .i64 s.up.door], .func (.func 43) #[] #[]] w (isAns w (h.shaft s) (Hs.spareV h s)) := by
  unfold Hs.spareV
  by_cases hs : h.shaft s = 0
  · rw [if_pos hs, hs]; exact ofShaft_spare h s hs _ rfl w
  · rw [if_neg hs]; exact ofShaft_no h s hs _ w
set_option maxRecDepth 20000 in
set_option maxHeartbeats 8000000 in
theorem implSpareOf_any (h : Hs) (s : Sh) (w : World) :
    Calls Try.prog 16 #[.agg #[.int .i64 h.fl, .int .i64 h.gp, .int .i64 h.ln, .int .i64 h.rf, .int .i64 h.sp, .int .i64 h.pu, .int .i64 h.br, .int .i64 h.dr, .int .i64 h.lv, .int .i64 h.dO, .int .i64 h.ld, .int .i64 h.qu], .agg #[.int .i64 s.lo.pos, .int .i64 s.lo.vel, .int .i64 s.lo.door, .int .i64 s.up.pos, .int .i64 s.up.vel, .int .i64 s.up.door]] w (isAns w (h.shaft s) (Hs.spareV h s)) := by
  have F0 : Hid (HAt (((w.alloc (.cells #[.int .i64 h.fl, .int .i64 h.gp, .int .i64 h.ln, .int .i64 h.rf, .int .i64 h.sp, .int .i64 h.pu, .int .i64 h.br, .int .i64 h.dr, .int .i64 h.lv, .int .i64 h.dO, .int .i64 h.ld, .int .i64 h.qu] 25)).alloc (.cells #[.int .i64 s.lo.pos, .int .i64 s.lo.vel, .int .i64 s.lo.door, .int .i64 s.up.pos, .int .i64 s.up.vel, .int .i64 s.up.door] 40)).alloc (.cells #[.int .i64 0, .int .i64 0] 33)) w.heap.size h) := ((HAt.at_ w h _ _ (by simp)).alloc _).alloc _
  have F1 : Hid (SW (((w.alloc (.cells #[.int .i64 h.fl, .int .i64 h.gp, .int .i64 h.ln, .int .i64 h.rf, .int .i64 h.sp, .int .i64 h.pu, .int .i64 h.br, .int .i64 h.dr, .int .i64 h.lv, .int .i64 h.dO, .int .i64 h.ld, .int .i64 h.qu] 25)).alloc (.cells #[.int .i64 s.lo.pos, .int .i64 s.lo.vel, .int .i64 s.lo.door, .int .i64 s.up.pos, .int .i64 s.up.vel, .int .i64 s.up.door] 40)).alloc (.cells #[.int .i64 0, .int .i64 0] 33)) (w.heap.size + 1) s) := (SW.at_ (w.alloc (.cells #[.int .i64 h.fl, .int .i64 h.gp, .int .i64 h.ln, .int .i64 h.rf, .int .i64 h.sp, .int .i64 h.pu, .int .i64 h.br, .int .i64 h.dr, .int .i64 h.lv, .int .i64 h.dO, .int .i64 h.ld, .int .i64 h.qu] 25)) s _ _ (by simp)).alloc _
  have F2 : Hid (R2 (((w.alloc (.cells #[.int .i64 h.fl, .int .i64 h.gp, .int .i64 h.ln, .int .i64 h.rf, .int .i64 h.sp, .int .i64 h.pu, .int .i64 h.br, .int .i64 h.dr, .int .i64 h.lv, .int .i64 h.dO, .int .i64 h.ld, .int .i64 h.qu] 25)).alloc (.cells #[.int .i64 s.lo.pos, .int .i64 s.lo.vel, .int .i64 s.lo.door, .int .i64 s.up.pos, .int .i64 s.up.vel, .int .i64 s.up.door] 40)).alloc (.cells #[.int .i64 0, .int .i64 0] 33)) (w.heap.size + 2)) := R2.at_ ((w.alloc (.cells #[.int .i64 h.fl, .int .i64 h.gp, .int .i64 h.ln, .int .i64 h.rf, .int .i64 h.sp, .int .i64 h.pu, .int .i64 h.br, .int .i64 h.dr, .int .i64 h.lv, .int .i64 h.dO, .int .i64 h.ld, .int .i64 h.qu] 25)).alloc (.cells #[.int .i64 s.lo.pos, .int .i64 s.lo.vel, .int .i64 s.lo.door, .int .i64 s.up.pos, .int .i64 s.up.vel, .int .i64 s.up.door] 40)) _ _ (by simp)
  have FB : Hid (Below w.heap.size w (((w.alloc (.cells #[.int .i64 h.fl, .int .i64 h.gp, .int .i64 h.ln, .int .i64 h.rf, .int .i64 h.sp, .int .i64 h.pu, .int .i64 h.br, .int .i64 h.dr, .int .i64 h.lv, .int .i64 h.dO, .int .i64 h.ld, .int .i64 h.qu] 25)).alloc (.cells #[.int .i64 s.lo.pos, .int .i64 s.lo.vel, .int .i64 s.lo.door, .int .i64 s.up.pos, .int .i64 s.up.vel, .int .i64 s.up.door] 40)).alloc (.cells #[.int .i64 0, .int .i64 0] 33))) := ((((Below.refl _ _).alloc (Nat.le_refl _) _).alloc (by simp <;> omega) _).alloc (by simp <;> omega) _)
  go_enter Try.func16, Try.ntmps16
  go_wp2_with (go_at_call 42; refine (ofShaft_spareV h s _).mono ?_; rintro e w1 ⟨rfl, hb⟩; have F0 : Hid (HAt w1 w.heap.size h) := F0.out.below hb F0.out.lt; have F1 : Hid (SW w1 (w.heap.size + 1) s) := F1.out.below hb F1.out.lt; have F2 : Hid (R2 w1 (w.heap.size + 2)) := F2.out.below hb F2.out.lt; have FB : Hid (Below w.heap.size w w1) := FB.out.trans (hb.mono FB.out.size); obtain ⟨x0_0, x0_1, x0_2, x0_3, x0_4, x0_5, x0_6, x0_7, x0_8, x0_9, x0_10, x0_11⟩ := F0.out; obtain ⟨x1_0, x1_1, x1_2, x1_3, x1_4, x1_5, y1_0, y1_1, y1_2, y1_3, y1_4, y1_5⟩ := F1.out; obtain ⟨x2_0, x2_1, y2_0, y2_1⟩ := F2.out; clear hb)
  exact bodyPost_ret (v := .agg #[.int .i64 (h.shaft s), .int .i64 (Hs.spareV h s)]) (by simp [results, Try.results16, go_sem, x2_0, x2_1]) rfl ⟨rfl, by repeat (first | exact FB.out | (refine Below.setCell ?_ (by simp <;> omega) _))⟩
end Go.Proofs.Ytclfdfcakmgffaa
