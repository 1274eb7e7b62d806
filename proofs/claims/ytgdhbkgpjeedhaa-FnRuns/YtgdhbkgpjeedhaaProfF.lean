/-
  The model's FarOf.
-/
import Derived.Test.YtgdhbkgpjeedhaaProfC
namespace Go.Proofs.Ytgdhbkgpjeedhaa
open Go.RowKit Pl
set_option linter.unusedSimpArgs false
set_option linter.unusedVariables false

set_option maxHeartbeats 2000000 in
theorem specFarOf_no (h : Hs) (c : Cs) (f : Int) (hk : h.car c ≠ 0) (w : World) :
    Calls Try.prog 8 #[.agg #[.int .i64 h.fl, .int .i64 h.gp, .int .i64 h.ln, .int .i64 h.rf, .int .i64 h.sp, .int .i64 h.pu, .int .i64 h.br, .int .i64 h.dr, .int .i64 h.lv, .int .i64 h.dO, .int .i64 h.ld, .int .i64 h.qu], .agg #[.int .i64 c.pos, .int .i64 c.vel, .int .i64 c.door], .int .i64 f] w (isAns w (h.car c) 0) := by
  have hn : (h.car c != 0) = true := by simpa using hk
  clear hk
  have F0 : Hid (HAt (((w.alloc (.cells #[.int .i64 h.fl, .int .i64 h.gp, .int .i64 h.ln, .int .i64 h.rf, .int .i64 h.sp, .int .i64 h.pu, .int .i64 h.br, .int .i64 h.dr, .int .i64 h.lv, .int .i64 h.dO, .int .i64 h.ld, .int .i64 h.qu] 25)).alloc (.cells #[.int .i64 c.pos, .int .i64 c.vel, .int .i64 c.door] 27)).alloc (.cells #[.int .i64 0, .int .i64 0] 31)) w.heap.size h) := ((HAt.at_ w h _ _ (by simp)).alloc _).alloc _
  have F1 : Hid (CW (((w.alloc (.cells #[.int .i64 h.fl, .int .i64 h.gp, .int .i64 h.ln, .int .i64 h.rf, .int .i64 h.sp, .int .i64 h.pu, .int .i64 h.br, .int .i64 h.dr, .int .i64 h.lv, .int .i64 h.dO, .int .i64 h.ld, .int .i64 h.qu] 25)).alloc (.cells #[.int .i64 c.pos, .int .i64 c.vel, .int .i64 c.door] 27)).alloc (.cells #[.int .i64 0, .int .i64 0] 31)) (w.heap.size + 1) c) := (CW.at_ (w.alloc (.cells #[.int .i64 h.fl, .int .i64 h.gp, .int .i64 h.ln, .int .i64 h.rf, .int .i64 h.sp, .int .i64 h.pu, .int .i64 h.br, .int .i64 h.dr, .int .i64 h.lv, .int .i64 h.dO, .int .i64 h.ld, .int .i64 h.qu] 25)) c _ _ (by simp)).alloc _
  have F2 : Hid (R2 (((w.alloc (.cells #[.int .i64 h.fl, .int .i64 h.gp, .int .i64 h.ln, .int .i64 h.rf, .int .i64 h.sp, .int .i64 h.pu, .int .i64 h.br, .int .i64 h.dr, .int .i64 h.lv, .int .i64 h.dO, .int .i64 h.ld, .int .i64 h.qu] 25)).alloc (.cells #[.int .i64 c.pos, .int .i64 c.vel, .int .i64 c.door] 27)).alloc (.cells #[.int .i64 0, .int .i64 0] 31)) (w.heap.size + 2)) := R2.at_ ((w.alloc (.cells #[.int .i64 h.fl, .int .i64 h.gp, .int .i64 h.ln, .int .i64 h.rf, .int .i64 h.sp, .int .i64 h.pu, .int .i64 h.br, .int .i64 h.dr, .int .i64 h.lv, .int .i64 h.dO, .int .i64 h.ld, .int .i64 h.qu] 25)).alloc (.cells #[.int .i64 c.pos, .int .i64 c.vel, .int .i64 c.door] 27)) _ _ (by simp)
  have FB : Hid (Below w.heap.size w (((w.alloc (.cells #[.int .i64 h.fl, .int .i64 h.gp, .int .i64 h.ln, .int .i64 h.rf, .int .i64 h.sp, .int .i64 h.pu, .int .i64 h.br, .int .i64 h.dr, .int .i64 h.lv, .int .i64 h.dO, .int .i64 h.ld, .int .i64 h.qu] 25)).alloc (.cells #[.int .i64 c.pos, .int .i64 c.vel, .int .i64 c.door] 27)).alloc (.cells #[.int .i64 0, .int .i64 0] 31))) := ((((Below.refl _ _).alloc (Nat.le_refl _) _).alloc (by simp <;> omega) _).alloc (by simp <;> omega) _)
  go_enter Try.func8, Try.ntmps8
  go_wp2_with (go_at_call 24; refine (specCarFault_any h c _).mono ?_; rintro e w1 ⟨rfl, hb⟩; have F0 : Hid (HAt w1 w.heap.size h) := F0.out.below hb F0.out.lt; have F1 : Hid (CW w1 (w.heap.size + 1) c) := F1.out.below hb F1.out.lt; have F2 : Hid (R2 w1 (w.heap.size + 2)) := F2.out.below hb F2.out.lt; have FB : Hid (Below w.heap.size w w1) := FB.out.trans (hb.mono FB.out.size); obtain ⟨x0_0, x0_1, x0_2, x0_3, x0_4, x0_5, x0_6, x0_7, x0_8, x0_9, x0_10, x0_11⟩ := F0.out; obtain ⟨x1_0, x1_1, x1_2, y1_0, y1_1, y1_2⟩ := F1.out; obtain ⟨x2_0, x2_1, y2_0, y2_1⟩ := F2.out; clear hb)
  exact bodyPost_ret (v := .agg #[.int .i64 (h.car c), .int .i64 0]) (by simp [results, Try.results8, go_sem, x2_0, x2_1]) rfl ⟨rfl, (FB.out.setCell (by simp <;> omega) _).setCell (by simp <;> omega) _⟩
set_option maxHeartbeats 2000000 in
theorem specFarOf_out (h : Hs) (c : Cs) (f : Int) (hk : h.car c = 0) (hi : inB f (-1) h.fl = false) (w : World) :
    Calls Try.prog 8 #[.agg #[.int .i64 h.fl, .int .i64 h.gp, .int .i64 h.ln, .int .i64 h.rf, .int .i64 h.sp, .int .i64 h.pu, .int .i64 h.br, .int .i64 h.dr, .int .i64 h.lv, .int .i64 h.dO, .int .i64 h.ld, .int .i64 h.qu], .agg #[.int .i64 c.pos, .int .i64 c.vel, .int .i64 c.door], .int .i64 f] w (isAns w 3 0) := by
  have F0 : Hid (HAt (((w.alloc (.cells #[.int .i64 h.fl, .int .i64 h.gp, .int .i64 h.ln, .int .i64 h.rf, .int .i64 h.sp, .int .i64 h.pu, .int .i64 h.br, .int .i64 h.dr, .int .i64 h.lv, .int .i64 h.dO, .int .i64 h.ld, .int .i64 h.qu] 25)).alloc (.cells #[.int .i64 c.pos, .int .i64 c.vel, .int .i64 c.door] 27)).alloc (.cells #[.int .i64 0, .int .i64 0] 31)) w.heap.size h) := ((HAt.at_ w h _ _ (by simp)).alloc _).alloc _
  have F1 : Hid (CW (((w.alloc (.cells #[.int .i64 h.fl, .int .i64 h.gp, .int .i64 h.ln, .int .i64 h.rf, .int .i64 h.sp, .int .i64 h.pu, .int .i64 h.br, .int .i64 h.dr, .int .i64 h.lv, .int .i64 h.dO, .int .i64 h.ld, .int .i64 h.qu] 25)).alloc (.cells #[.int .i64 c.pos, .int .i64 c.vel, .int .i64 c.door] 27)).alloc (.cells #[.int .i64 0, .int .i64 0] 31)) (w.heap.size + 1) c) := (CW.at_ (w.alloc (.cells #[.int .i64 h.fl, .int .i64 h.gp, .int .i64 h.ln, .int .i64 h.rf, .int .i64 h.sp, .int .i64 h.pu, .int .i64 h.br, .int .i64 h.dr, .int .i64 h.lv, .int .i64 h.dO, .int .i64 h.ld, .int .i64 h.qu] 25)) c _ _ (by simp)).alloc _
  have F2 : Hid (R2 (((w.alloc (.cells #[.int .i64 h.fl, .int .i64 h.gp, .int .i64 h.ln, .int .i64 h.rf, .int .i64 h.sp, .int .i64 h.pu, .int .i64 h.br, .int .i64 h.dr, .int .i64 h.lv, .int .i64 h.dO, .int .i64 h.ld, .int .i64 h.qu] 25)).alloc (.cells #[.int .i64 c.pos, .int .i64 c.vel, .int .i64 c.door] 27)).alloc (.cells #[.int .i64 0, .int .i64 0] 31)) (w.heap.size + 2)) := R2.at_ ((w.alloc (.cells #[.int .i64 h.fl, .int .i64 h.gp, .int .i64 h.ln, .int .i64 h.rf, .int .i64 h.sp, .int .i64 h.pu, .int .i64 h.br, .int .i64 h.dr, .int .i64 h.lv, .int .i64 h.dO, .int .i64 h.ld, .int .i64 h.qu] 25)).alloc (.cells #[.int .i64 c.pos, .int .i64 c.vel, .int .i64 c.door] 27)) _ _ (by simp)
  have FB : Hid (Below w.heap.size w (((w.alloc (.cells #[.int .i64 h.fl, .int .i64 h.gp, .int .i64 h.ln, .int .i64 h.rf, .int .i64 h.sp, .int .i64 h.pu, .int .i64 h.br, .int .i64 h.dr, .int .i64 h.lv, .int .i64 h.dO, .int .i64 h.ld, .int .i64 h.qu] 25)).alloc (.cells #[.int .i64 c.pos, .int .i64 c.vel, .int .i64 c.door] 27)).alloc (.cells #[.int .i64 0, .int .i64 0] 31))) := ((((Below.refl _ _).alloc (Nat.le_refl _) _).alloc (by simp <;> omega) _).alloc (by simp <;> omega) _)
  go_enter Try.func8, Try.ntmps8
  go_wp2_with (first | (go_at_call 24; refine (specCarFault_any h c _).mono ?_; rw [hk]; rintro e w1 ⟨rfl, hb⟩; have F0 : Hid (HAt w1 w.heap.size h) := F0.out.below hb F0.out.lt; have F1 : Hid (CW w1 (w.heap.size + 1) c) := F1.out.below hb F1.out.lt; have F2 : Hid (R2 w1 (w.heap.size + 2)) := F2.out.below hb F2.out.lt; have FB : Hid (Below w.heap.size w w1) := FB.out.trans (hb.mono FB.out.size); obtain ⟨x0_0, x0_1, x0_2, x0_3, x0_4, x0_5, x0_6, x0_7, x0_8, x0_9, x0_10, x0_11⟩ := F0.out; obtain ⟨x1_0, x1_1, x1_2, y1_0, y1_1, y1_2⟩ := F1.out; obtain ⟨x2_0, x2_1, y2_0, y2_1⟩ := F2.out; clear hb) | (go_at_call 25; refine (l1In_any _ _ _ _).mono ?_; rintro e w' ⟨rfl, hw⟩; obtain rfl := hw.symm; clear hw))
  exact bodyPost_ret (v := .agg #[.int .i64 3, .int .i64 0]) (by simp [results, Try.results8, go_sem, x2_0, x2_1]) rfl ⟨rfl, (FB.out.setCell (by simp <;> omega) _).setCell (by simp <;> omega) _⟩
set_option maxHeartbeats 4000000 in
theorem specFarOf_yes (h : Hs) (c : Cs) (f : Int) (hk : h.car c = 0) (hi : inB f (-1) h.fl = true) (w : World) :
    Calls Try.prog 8 #[.agg #[.int .i64 h.fl, .int .i64 h.gp, .int .i64 h.ln, .int .i64 h.rf, .int .i64 h.sp, .int .i64 h.pu, .int .i64 h.br, .int .i64 h.dr, .int .i64 h.lv, .int .i64 h.dO, .int .i64 h.ld, .int .i64 h.qu], .agg #[.int .i64 c.pos, .int .i64 c.vel, .int .i64 c.door], .int .i64 f] w (isAns w 0 (absI (h.level f - c.pos))) := by
  have k := Hs.car_zero hk
  have o := k.ok
  have l1 := o.fl1; have l2 := o.fl2; have en := car_env k
  have b1 : -1 ≤ f := (inB_iff.1 hi).1
  have b2 : f ≤ h.fl := (inB_iff.1 hi).2
  obtain ⟨lb1, lb2⟩ := o.level_bd f (by omega) (by omega)
  have e1 : IntKind.i64.wrap (h.level f - c.pos) = h.level f - c.pos := IntWalk.i64_in _ (by omega)
  have HO : Hid h.Ok := o
  clear o k
  have F0 : Hid (HAt (((w.alloc (.cells #[.int .i64 h.fl, .int .i64 h.gp, .int .i64 h.ln, .int .i64 h.rf, .int .i64 h.sp, .int .i64 h.pu, .int .i64 h.br, .int .i64 h.dr, .int .i64 h.lv, .int .i64 h.dO, .int .i64 h.ld, .int .i64 h.qu] 25)).alloc (.cells #[.int .i64 c.pos, .int .i64 c.vel, .int .i64 c.door] 27)).alloc (.cells #[.int .i64 0, .int .i64 0] 31)) w.heap.size h) := ((HAt.at_ w h _ _ (by simp)).alloc _).alloc _
  have F1 : Hid (CW (((w.alloc (.cells #[.int .i64 h.fl, .int .i64 h.gp, .int .i64 h.ln, .int .i64 h.rf, .int .i64 h.sp, .int .i64 h.pu, .int .i64 h.br, .int .i64 h.dr, .int .i64 h.lv, .int .i64 h.dO, .int .i64 h.ld, .int .i64 h.qu] 25)).alloc (.cells #[.int .i64 c.pos, .int .i64 c.vel, .int .i64 c.door] 27)).alloc (.cells #[.int .i64 0, .int .i64 0] 31)) (w.heap.size + 1) c) := (CW.at_ (w.alloc (.cells #[.int .i64 h.fl, .int .i64 h.gp, .int .i64 h.ln, .int .i64 h.rf, .int .i64 h.sp, .int .i64 h.pu, .int .i64 h.br, .int .i64 h.dr, .int .i64 h.lv, .int .i64 h.dO, .int .i64 h.ld, .int .i64 h.qu] 25)) c _ _ (by simp)).alloc _
  have F2 : Hid (R2 (((w.alloc (.cells #[.int .i64 h.fl, .int .i64 h.gp, .int .i64 h.ln, .int .i64 h.rf, .int .i64 h.sp, .int .i64 h.pu, .int .i64 h.br, .int .i64 h.dr, .int .i64 h.lv, .int .i64 h.dO, .int .i64 h.ld, .int .i64 h.qu] 25)).alloc (.cells #[.int .i64 c.pos, .int .i64 c.vel, .int .i64 c.door] 27)).alloc (.cells #[.int .i64 0, .int .i64 0] 31)) (w.heap.size + 2)) := R2.at_ ((w.alloc (.cells #[.int .i64 h.fl, .int .i64 h.gp, .int .i64 h.ln, .int .i64 h.rf, .int .i64 h.sp, .int .i64 h.pu, .int .i64 h.br, .int .i64 h.dr, .int .i64 h.lv, .int .i64 h.dO, .int .i64 h.ld, .int .i64 h.qu] 25)).alloc (.cells #[.int .i64 c.pos, .int .i64 c.vel, .int .i64 c.door] 27)) _ _ (by simp)
  have FB : Hid (Below w.heap.size w (((w.alloc (.cells #[.int .i64 h.fl, .int .i64 h.gp, .int .i64 h.ln, .int .i64 h.rf, .int .i64 h.sp, .int .i64 h.pu, .int .i64 h.br, .int .i64 h.dr, .int .i64 h.lv, .int .i64 h.dO, .int .i64 h.ld, .int .i64 h.qu] 25)).alloc (.cells #[.int .i64 c.pos, .int .i64 c.vel, .int .i64 c.door] 27)).alloc (.cells #[.int .i64 0, .int .i64 0] 31))) := ((((Below.refl _ _).alloc (Nat.le_refl _) _).alloc (by simp <;> omega) _).alloc (by simp <;> omega) _)
  go_enter Try.func8, Try.ntmps8
  go_wp2_with (first | (go_at_call 24; refine (specCarFault_any h c _).mono ?_; rw [hk]; rintro e w1 ⟨rfl, hb⟩; have F0 : Hid (HAt w1 w.heap.size h) := F0.out.below hb F0.out.lt; have F1 : Hid (CW w1 (w.heap.size + 1) c) := F1.out.below hb F1.out.lt; have F2 : Hid (R2 w1 (w.heap.size + 2)) := F2.out.below hb F2.out.lt; have FB : Hid (Below w.heap.size w w1) := FB.out.trans (hb.mono FB.out.size); obtain ⟨x0_0, x0_1, x0_2, x0_3, x0_4, x0_5, x0_6, x0_7, x0_8, x0_9, x0_10, x0_11⟩ := F0.out; obtain ⟨x1_0, x1_1, x1_2, y1_0, y1_1, y1_2⟩ := F1.out; obtain ⟨x2_0, x2_1, y2_0, y2_1⟩ := F2.out; clear hb) | (go_at_call 25; refine (l1In_any _ _ _ _).mono ?_; rintro e w' ⟨rfl, hw⟩; obtain rfl := hw.symm; clear hw))
  have F0 : Hid (HAt w1.drew w.heap.size h) := F0.out.below (Below.refl _ _).drew F0.out.lt
  have F1 : Hid (CW w1.drew (w.heap.size + 1) c) := F1.out.below (Below.refl _ _).drew F1.out.lt
  have F2 : Hid (R2 w1.drew (w.heap.size + 2)) := F2.out.below (Below.refl _ _).drew F2.out.lt
  have FB : Hid (Below w.heap.size w w1.drew) := FB.out.drew
  obtain ⟨x0_0, x0_1, x0_2, x0_3, x0_4, x0_5, x0_6, x0_7, x0_8, x0_9, x0_10, x0_11⟩ := F0.out
  obtain ⟨x1_0, x1_1, x1_2, y1_0, y1_1, y1_2⟩ := F1.out
  refine wp_region_held_drew (S := (fun w'' => w''.cell? ⟨w.heap.size, 0, none⟩ = some (.int .i64 h.fl) ∧ w''.cell? ⟨w.heap.size, 1, none⟩ = some (.int .i64 h.gp) ∧ w''.cell? ⟨w.heap.size, 2, none⟩ = some (.int .i64 h.ln) ∧ w''.cell? ⟨w.heap.size, 3, none⟩ = some (.int .i64 h.rf) ∧ w''.cell? ⟨w.heap.size, 4, none⟩ = some (.int .i64 h.sp) ∧ w''.cell? ⟨w.heap.size, 5, none⟩ = some (.int .i64 h.pu) ∧ w''.cell? ⟨w.heap.size, 6, none⟩ = some (.int .i64 h.br) ∧ w''.cell? ⟨w.heap.size, 7, none⟩ = some (.int .i64 h.dr) ∧ w''.cell? ⟨w.heap.size, 8, none⟩ = some (.int .i64 h.lv) ∧ w''.cell? ⟨w.heap.size, 9, none⟩ = some (.int .i64 h.dO) ∧ w''.cell? ⟨w.heap.size, 10, none⟩ = some (.int .i64 h.ld) ∧ w''.cell? ⟨w.heap.size, 11, none⟩ = some (.int .i64 h.qu) ∧ w''.cell? ⟨(w.heap.size + 1), 0, none⟩ = some (.int .i64 c.pos) ∧ w''.cell? ⟨(w.heap.size + 1), 1, none⟩ = some (.int .i64 c.vel) ∧ w''.cell? ⟨(w.heap.size + 1), 2, none⟩ = some (.int .i64 c.door))) (by kernel_rfl) (by (try dsimp only); first | exact ⟨x0_0, x0_1, x0_2, x0_3, x0_4, x0_5, x0_6, x0_7, x0_8, x0_9, x0_10, x0_11, x1_0, x1_1, x1_2⟩ | go_keep) (fun hHeld => ?_)
  obtain ⟨v_1, hw1⟩ : ∃ v_1, v_1 = w1.drew := ⟨_, rfl⟩
  have F0 : Hid (HAt v_1 w.heap.size h) := by rw [hw1]; exact F0.out
  have F1 : Hid (CW v_1 (w.heap.size + 1) c) := by rw [hw1]; exact F1.out
  have F2 : Hid (R2 v_1 (w.heap.size + 2)) := by rw [hw1]; exact F2.out
  have FB : Hid (Below w.heap.size w v_1) := by rw [hw1]; exact FB.out
  rw [← hw1] at hHeld ⊢
  clear hw1
  obtain ⟨x0_0, x0_1, x0_2, x0_3, x0_4, x0_5, x0_6, x0_7, x0_8, x0_9, x0_10, x0_11⟩ := F0.out
  obtain ⟨x1_0, x1_1, x1_2, y1_0, y1_1, y1_2⟩ := F1.out
  refine tkz 0 rfl ?_
  refine tkz 1 rfl ?_
  refine tkz 3 rfl ?_
  refine tkz 4 rfl ?_
  refine wpAnyH_ready (rs := [2]) (by kernel_rfl) (by simp) ?_
  refine (AllReadyH.cons rfl (fun K hK => ?_) AllReadyH.nil)
  go_simp
  refine (specLevel_below h HO.out _ (by omega) (by omega) _).mono ?_
  rintro e v_2 ⟨rfl, hb⟩
  have F0 : Hid (HAt v_2 w.heap.size h) := F0.out.below hb F0.out.lt
  have F1 : Hid (CW v_2 (w.heap.size + 1) c) := F1.out.below hb F1.out.lt
  have F2 : Hid (R2 v_2 (w.heap.size + 2)) := F2.out.below hb F2.out.lt
  have FB : Hid (Below w.heap.size w v_2) := FB.out.trans (hb.mono FB.out.size)
  clear hb
  obtain ⟨x0_0, x0_1, x0_2, x0_3, x0_4, x0_5, x0_6, x0_7, x0_8, x0_9, x0_10, x0_11⟩ := F0.out
  obtain ⟨x1_0, x1_1, x1_2, y1_0, y1_1, y1_2⟩ := F1.out
  try dsimp only
  refine hK.out _ _ (by (try dsimp only); first | exact ⟨x0_0, x0_1, x0_2, x0_3, x0_4, x0_5, x0_6, x0_7, x0_8, x0_9, x0_10, x0_11, x1_0, x1_1, x1_2⟩ | go_keep) (fun hHeld => ?_)
  clear hK K
  try simp only [Act.put, List.getElem_toArray, List.getElem_cons_succ, List.getElem_cons_zero, List.setIfInBounds_toArray, List.set_cons_zero, List.set_cons_succ]
  refine tkz 5 rfl ?_
  refine wpAnyH_ready (rs := [6]) (by kernel_rfl) (by simp) ?_
  refine (AllReadyH.cons rfl (fun K hK => ?_) AllReadyH.nil)
  go_simp
  refine (l1Abs_any _ (by omega) (by omega) _).mono ?_
  rintro e w_ ⟨rfl, hw⟩
  obtain rfl := hw.symm
  clear hw
  try dsimp only
  refine hK.out _ _ (by (try dsimp only); first | exact ⟨x0_0, x0_1, x0_2, x0_3, x0_4, x0_5, x0_6, x0_7, x0_8, x0_9, x0_10, x0_11, x1_0, x1_1, x1_2⟩ | go_keep) (fun hHeld => ?_)
  clear hK K
  try simp only [Act.put, List.getElem_toArray, List.getElem_cons_succ, List.getElem_cons_zero, List.setIfInBounds_toArray, List.set_cons_zero, List.set_cons_succ]
  refine tkz 7 rfl ?_
  refine wpAnyH_ready (rs := [8]) (by kernel_rfl) (by simp) ?_
  refine (AllReadyH.cons rfl (fun K hK => ?_) AllReadyH.nil)
  have r0_ := F2.out.c0
  have r1_ := F2.out.c1
  have s0_ := F2.out.f0
  have s1_ := F2.out.f1
  go_simp
  obtain ⟨v_3, hw2⟩ : ∃ v_3, v_3 = put2 v_2 (w.heap.size + 2) 0 (absI (h.level f - c.pos)) := ⟨_, rfl⟩
  change K _ (put2 v_2 (w.heap.size + 2) 0 (absI (h.level f - c.pos)))
  rw [← hw2]
  clear r0_ r1_ s0_ s1_
  have F0 : Hid (HAt v_3 w.heap.size h) := by rw [hw2]; exact F0.out.below (below_put2 (Below.refl _ _) (Nat.le_refl _) 0 _) (by omega)
  have F1 : Hid (CW v_3 (w.heap.size + 1) c) := by rw [hw2]; exact F1.out.below (below_put2 (Below.refl _ _) (Nat.le_refl _) 0 _) (by omega)
  have F2 : Hid (VAt v_3 (w.heap.size + 2) 0 (absI (h.level f - c.pos))) := by rw [hw2]; exact F2.out.put 0 _
  have FB : Hid (Below w.heap.size w v_3) := by rw [hw2]; exact below_put2 FB.out (by omega) 0 _
  clear hw2
  obtain ⟨x0_0, x0_1, x0_2, x0_3, x0_4, x0_5, x0_6, x0_7, x0_8, x0_9, x0_10, x0_11⟩ := F0.out
  obtain ⟨x1_0, x1_1, x1_2, y1_0, y1_1, y1_2⟩ := F1.out
  refine hK.out _ _ (by (try dsimp only); first | exact ⟨x0_0, x0_1, x0_2, x0_3, x0_4, x0_5, x0_6, x0_7, x0_8, x0_9, x0_10, x0_11, x1_0, x1_1, x1_2⟩ | go_keep) (fun hHeld => ?_)
  clear hK K
  try simp only [Act.put, List.getElem_toArray, List.getElem_cons_succ, List.getElem_cons_zero, List.setIfInBounds_toArray, List.set_cons_zero, List.set_cons_succ]
  refine wpAnyH_done (by kernel_rfl) ?_ _
  obtain ⟨g0, g1⟩ := F2.out
  go_wp2
  exact bodyPost_ret (v := .agg #[.int .i64 0, .int .i64 (absI (h.level f - c.pos))]) (by simp [results, Try.results8, go_sem, g0, g1]) rfl ⟨rfl, FB.out⟩
/-- What FarOf answers: its code, its number. -/
def Hs.farK (h : Hs) (c : Cs) (f : Int) : Int := if h.car c = 0 then (if inB f (-1) h.fl = true then 0 else 3) else h.car c
def Hs.farV (h : Hs) (c : Cs) (f : Int) : Int := if h.car c = 0 ∧ inB f (-1) h.fl = true then (absI (h.level f - c.pos)) else 0
theorem Hs.far_all {P : Int → Int → Prop} (h : Hs) (c : Cs) (f : Int) (h1 : h.car c ≠ 0 → P (h.car c) 0) (h2 : h.car c = 0 → inB f (-1) h.fl = false → P 3 0) (h3 : h.car c = 0 → inB f (-1) h.fl = true → P 0 (absI (h.level f - c.pos))) : P (Hs.farK h c f) (Hs.farV h c f) := by
  unfold Hs.farK Hs.farV
  by_cases k : h.car c = 0
  · cases hi : inB f (-1) h.fl with
    | true => rw [if_pos k, if_pos rfl, if_pos ⟨k, rfl⟩]; exact h3 k hi
    | false => rw [if_pos k, if_neg (by simp), if_neg (by simp)]; exact h2 k hi
  · rw [if_neg k, if_neg (fun e => k e.1)]; exact h1 k
theorem specFarOf_all (h : Hs) (c : Cs) (f : Int) (w : World) : Calls Try.prog 8 #[.agg #[.int .i64 h.fl, .int .i64 h.gp, .int .i64 h.ln, .int .i64 h.rf, .int .i64 h.sp, .int .i64 h.pu, .int .i64 h.br, .int .i64 h.dr, .int .i64 h.lv, .int .i64 h.dO, .int .i64 h.ld, .int .i64 h.qu], .agg #[.int .i64 c.pos, .int .i64 c.vel, .int .i64 c.door], .int .i64 f] w (isAns w (Hs.farK h c f) (Hs.farV h c f)) :=
  Hs.far_all (P := fun a b => Calls Try.prog 8 #[.agg #[.int .i64 h.fl, .int .i64 h.gp, .int .i64 h.ln, .int .i64 h.rf, .int .i64 h.sp, .int .i64 h.pu, .int .i64 h.br, .int .i64 h.dr, .int .i64 h.lv, .int .i64 h.dO, .int .i64 h.ld, .int .i64 h.qu], .agg #[.int .i64 c.pos, .int .i64 c.vel, .int .i64 c.door], .int .i64 f] w (isAns w a b)) h c f (fun k => specFarOf_no h c f k w) (fun k1 k2 => specFarOf_out h c f k1 k2 w) (fun k1 k2 => specFarOf_yes h c f k1 k2 w)
end Go.Proofs.Ytgdhbkgpjeedhaa
