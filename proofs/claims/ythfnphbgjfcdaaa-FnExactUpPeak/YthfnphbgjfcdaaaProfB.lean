/-
  The model's command for a floor; whether it has come there; how far it is.
-/
import Derived.Test.YthfnphbgjfcdaaaProfA
import Derived.Deep.DeepCutAuto
namespace Go.Proofs.Ythfnphbgjfcdaaa
open Go.RowKit Pl
set_option linter.unusedSimpArgs false
set_option linter.unusedVariables false

set_option maxRecDepth 20000 in
set_option maxHeartbeats 8000000 in
theorem l4For_any (h : Hs) (o : h.Ok) (c : Cs) (f : Int) (f1 : -1 ≤ f) (f2 : f ≤ 12) (p1 : -100000000 ≤ c.pos) (p2 : c.pos ≤ 100000000) (v1 : -500 ≤ c.vel) (v2 : c.vel ≤ 500) (x : Cm) (hx : Hs.forC h c f = x) (w : World) :
    Calls Try.prog 44 #[.agg #[.int .i64 h.fl, .int .i64 h.gp, .int .i64 h.ln, .int .i64 h.rf, .int .i64 h.sp, .int .i64 h.pu, .int .i64 h.br, .int .i64 h.dr, .int .i64 h.lv, .int .i64 h.dO, .int .i64 h.ld, .int .i64 h.qu], .agg #[.int .i64 c.pos, .int .i64 c.vel, .int .i64 c.door], .int .i64 f] w (isCmd w x) := by
  have s1 := o.sp1; have s2 := o.sp2; have q1 := o.pu1; have q2 := o.pu2
  obtain ⟨b1, b2⟩ := o.level_bd f (by omega) f2
  unfold Hs.forC at hx
  obtain ⟨d, hd⟩ : ∃ d, h.level f - c.pos = d := ⟨_, rfl⟩
  rw [hd] at hx
  have d1 : -200000000 ≤ d ∧ d ≤ 200000000 := by omega
  have e1 : IntKind.i64.wrap (h.level f - c.pos) = d := by rw [← hd]; exact IntWalk.i64_in _ (by omega)
  have ea : IntKind.i64.wrap (-c.vel) = -c.vel := IntWalk.i64_in _ (by omega)
  have eb : IntKind.i64.wrap (-d) = -d := IntWalk.i64_in _ (by omega)
  have HX : Hid ((if absI d ≤ h.lv ∧ absI c.vel ≤ h.br then (⟨0, true, false⟩ : Cm) else if d < 0 then ⟨-(Hs.upP h (-c.vel) (-d)), false, false⟩ else ⟨Hs.upP h c.vel d, false, false⟩) = x) := hx
  obtain ⟨nb, hnb⟩ : ∃ nb, nb = (decide (absI d ≤ h.lv) && decide (absI c.vel ≤ h.br)) := ⟨_, rfl⟩
  have HNB : Hid (nb = (decide (absI d ≤ h.lv) && decide (absI c.vel ≤ h.br))) := hnb
  have HO : Hid h.Ok := o
  clear o hx hd hnb
  obtain ⟨W0, hW0⟩ : ∃ W0, W0 = (((w.alloc (.cells #[.int .i64 h.fl, .int .i64 h.gp, .int .i64 h.ln, .int .i64 h.rf, .int .i64 h.sp, .int .i64 h.pu, .int .i64 h.br, .int .i64 h.dr, .int .i64 h.lv, .int .i64 h.dO, .int .i64 h.ld, .int .i64 h.qu] 27)).alloc (.cells #[.int .i64 c.pos, .int .i64 c.vel, .int .i64 c.door] 44)).alloc (.cells #[.int .i64 0, .bool false, .bool false] 61)) := ⟨_, rfl⟩
  have F0 : Hid (HAt W0 w.heap.size h) := by rw [hW0]; exact ((HAt.at_ w h _ _ (by simp)).alloc _).alloc _
  have F1 : Hid (CW W0 (w.heap.size + 1) c) := by rw [hW0]; exact (CW.at_ _ c _ _ (by simp)).alloc _
  have F2 : Hid (XW W0 (w.heap.size + 2) (⟨0, false, false⟩ : Cm)) := by rw [hW0]; exact XW.at_ _ (⟨0, false, false⟩ : Cm) _ _ (by simp)
  have FB : Hid (Below w.heap.size w W0) := by rw [hW0]; exact ((((Below.refl _ _).alloc (Nat.le_refl _) _).alloc (by simp <;> omega) _).alloc (by simp <;> omega) _)
  have HW0 : Hid (W0 = (((w.alloc (.cells #[.int .i64 h.fl, .int .i64 h.gp, .int .i64 h.ln, .int .i64 h.rf, .int .i64 h.sp, .int .i64 h.pu, .int .i64 h.br, .int .i64 h.dr, .int .i64 h.lv, .int .i64 h.dO, .int .i64 h.ld, .int .i64 h.qu] 27)).alloc (.cells #[.int .i64 c.pos, .int .i64 c.vel, .int .i64 c.door] 44)).alloc (.cells #[.int .i64 0, .bool false, .bool false] 61))) := hW0
  clear hW0
  go_enter Try.func44, Try.ntmps44
  go_wp2_with fail
  rw [← HW0.out]
  clear HW0
  have F0 : Hid (HAt W0.drew w.heap.size h) := F0.out.below (Below.refl _ _).drew F0.out.lt
  have F1 : Hid (CW W0.drew (w.heap.size + 1) c) := F1.out.below (Below.refl _ _).drew F1.out.lt
  have F2 : Hid (XW W0.drew (w.heap.size + 2) (⟨0, false, false⟩ : Cm)) := F2.out.below (Below.refl _ _).drew F2.out.lt
  have FB : Hid (Below w.heap.size w W0.drew) := FB.out.drew
  obtain ⟨x0_0, x0_1, x0_2, x0_3, x0_4, x0_5, x0_6, x0_7, x0_8, x0_9, x0_10, x0_11⟩ := F0.out
  obtain ⟨x1_0, x1_1, x1_2, y1_0, y1_1, y1_2⟩ := F1.out
  refine wp_region_held_drew (S := (fun w'' => w''.cell? ⟨w.heap.size, 0, none⟩ = some (.int .i64 h.fl) ∧ w''.cell? ⟨w.heap.size, 1, none⟩ = some (.int .i64 h.gp) ∧ w''.cell? ⟨w.heap.size, 2, none⟩ = some (.int .i64 h.ln) ∧ w''.cell? ⟨w.heap.size, 3, none⟩ = some (.int .i64 h.rf) ∧ w''.cell? ⟨w.heap.size, 4, none⟩ = some (.int .i64 h.sp) ∧ w''.cell? ⟨w.heap.size, 5, none⟩ = some (.int .i64 h.pu) ∧ w''.cell? ⟨w.heap.size, 6, none⟩ = some (.int .i64 h.br) ∧ w''.cell? ⟨w.heap.size, 7, none⟩ = some (.int .i64 h.dr) ∧ w''.cell? ⟨w.heap.size, 8, none⟩ = some (.int .i64 h.lv) ∧ w''.cell? ⟨w.heap.size, 9, none⟩ = some (.int .i64 h.dO) ∧ w''.cell? ⟨w.heap.size, 10, none⟩ = some (.int .i64 h.ld) ∧ w''.cell? ⟨w.heap.size, 11, none⟩ = some (.int .i64 h.qu) ∧ w''.cell? ⟨(w.heap.size + 1), 0, none⟩ = some (.int .i64 c.pos) ∧ w''.cell? ⟨(w.heap.size + 1), 1, none⟩ = some (.int .i64 c.vel) ∧ w''.cell? ⟨(w.heap.size + 1), 2, none⟩ = some (.int .i64 c.door))) (by kernel_rfl) (by (try dsimp only); first | exact ⟨x0_0, x0_1, x0_2, x0_3, x0_4, x0_5, x0_6, x0_7, x0_8, x0_9, x0_10, x0_11, x1_0, x1_1, x1_2⟩ | go_keep) (fun hHeld => ?_)
  obtain ⟨v_1, hw1⟩ : ∃ v_1, v_1 = W0.drew := ⟨_, rfl⟩
  have F0 : Hid (HAt v_1 w.heap.size h) := by rw [hw1]; exact F0.out
  have F1 : Hid (CW v_1 (w.heap.size + 1) c) := by rw [hw1]; exact F1.out
  have F2 : Hid (XW v_1 (w.heap.size + 2) (⟨0, false, false⟩ : Cm)) := by rw [hw1]; exact F2.out
  have FB : Hid (Below w.heap.size w v_1) := by rw [hw1]; exact FB.out
  rw [← hw1] at hHeld ⊢
  clear hw1
  obtain ⟨x0_0, x0_1, x0_2, x0_3, x0_4, x0_5, x0_6, x0_7, x0_8, x0_9, x0_10, x0_11⟩ := F0.out
  obtain ⟨x1_0, x1_1, x1_2, y1_0, y1_1, y1_2⟩ := F1.out
  refine tkz 0 rfl ?_
  refine tkz 1 rfl ?_
  refine tkz 3 rfl ?_
  refine tkz 4 rfl ?_
  refine wpAnyH_ready (rs := [2]) (by kernel_rfl) (by simp) ?_
  refine (AllReadyH.cons rfl (fun K hK => ?_) AllReadyH.nil)
  go_simp
  refine (specLevel_below h HO.out _ (by omega) (by omega) _).mono ?_
  rintro e v_2 ⟨rfl, hb⟩
  have F0 : Hid (HAt v_2 w.heap.size h) := F0.out.below hb F0.out.lt
  have F1 : Hid (CW v_2 (w.heap.size + 1) c) := F1.out.below hb F1.out.lt
  have F2 : Hid (XW v_2 (w.heap.size + 2) (⟨0, false, false⟩ : Cm)) := F2.out.below hb F2.out.lt
  have FB : Hid (Below w.heap.size w v_2) := FB.out.trans (hb.mono FB.out.size)
  clear hb
  obtain ⟨x0_0, x0_1, x0_2, x0_3, x0_4, x0_5, x0_6, x0_7, x0_8, x0_9, x0_10, x0_11⟩ := F0.out
  obtain ⟨x1_0, x1_1, x1_2, y1_0, y1_1, y1_2⟩ := F1.out
  try dsimp only
  refine hK.out _ _ (by (try dsimp only); first | exact ⟨x0_0, x0_1, x0_2, x0_3, x0_4, x0_5, x0_6, x0_7, x0_8, x0_9, x0_10, x0_11, x1_0, x1_1, x1_2⟩ | go_keep) (fun hHeld => ?_)
  clear hK K
  try simp only [Act.put, List.getElem_toArray, List.getElem_cons_succ, List.getElem_cons_zero, List.setIfInBounds_toArray, List.set_cons_zero, List.set_cons_succ]
  refine tkz 5 rfl ?_
  refine tkz 6 rfl ?_
  refine wpAnyH_done (by kernel_rfl) ?_ _
  go_wp2_with fail
  obtain ⟨wd, hwd⟩ : ∃ wd, wd = v_2 := ⟨_, rfl⟩
  subst hwd
  go_cut [26] (fun s wx => s = .bool nb ∧ HAt wx w.heap.size h ∧ CW wx (w.heap.size + 1) c ∧ XW wx (w.heap.size + 2) (⟨0, false, false⟩ : Cm) ∧ Below w.heap.size w wx)
  case first =>
    cases k1 : decide (absI d ≤ h.lv)
    · have F0 : Hid (HAt wd.drew w.heap.size h) := F0.out.below (Below.refl _ _).drew F0.out.lt
      have F1 : Hid (CW wd.drew (w.heap.size + 1) c) := F1.out.below (Below.refl _ _).drew F1.out.lt
      have F2 : Hid (XW wd.drew (w.heap.size + 2) (⟨0, false, false⟩ : Cm)) := F2.out.below (Below.refl _ _).drew F2.out.lt
      have FB : Hid (Below w.heap.size w wd.drew) := FB.out.drew
      obtain ⟨x0_0, x0_1, x0_2, x0_3, x0_4, x0_5, x0_6, x0_7, x0_8, x0_9, x0_10, x0_11⟩ := F0.out
      obtain ⟨x1_0, x1_1, x1_2, y1_0, y1_1, y1_2⟩ := F1.out
      refine wp_region_held_drew (S := (fun w'' => w''.cell? ⟨w.heap.size, 0, none⟩ = some (.int .i64 h.fl) ∧ w''.cell? ⟨w.heap.size, 1, none⟩ = some (.int .i64 h.gp) ∧ w''.cell? ⟨w.heap.size, 2, none⟩ = some (.int .i64 h.ln) ∧ w''.cell? ⟨w.heap.size, 3, none⟩ = some (.int .i64 h.rf) ∧ w''.cell? ⟨w.heap.size, 4, none⟩ = some (.int .i64 h.sp) ∧ w''.cell? ⟨w.heap.size, 5, none⟩ = some (.int .i64 h.pu) ∧ w''.cell? ⟨w.heap.size, 6, none⟩ = some (.int .i64 h.br) ∧ w''.cell? ⟨w.heap.size, 7, none⟩ = some (.int .i64 h.dr) ∧ w''.cell? ⟨w.heap.size, 8, none⟩ = some (.int .i64 h.lv) ∧ w''.cell? ⟨w.heap.size, 9, none⟩ = some (.int .i64 h.dO) ∧ w''.cell? ⟨w.heap.size, 10, none⟩ = some (.int .i64 h.ld) ∧ w''.cell? ⟨w.heap.size, 11, none⟩ = some (.int .i64 h.qu) ∧ w''.cell? ⟨(w.heap.size + 1), 0, none⟩ = some (.int .i64 c.pos) ∧ w''.cell? ⟨(w.heap.size + 1), 1, none⟩ = some (.int .i64 c.vel) ∧ w''.cell? ⟨(w.heap.size + 1), 2, none⟩ = some (.int .i64 c.door))) (by kernel_rfl) (by (try dsimp only); first | exact ⟨x0_0, x0_1, x0_2, x0_3, x0_4, x0_5, x0_6, x0_7, x0_8, x0_9, x0_10, x0_11, x1_0, x1_1, x1_2⟩ | go_keep) (fun hHeld => ?_)
      obtain ⟨v_3, hw1⟩ : ∃ v_3, v_3 = wd.drew := ⟨_, rfl⟩
      have F0 : Hid (HAt v_3 w.heap.size h) := by rw [hw1]; exact F0.out
      have F1 : Hid (CW v_3 (w.heap.size + 1) c) := by rw [hw1]; exact F1.out
      have F2 : Hid (XW v_3 (w.heap.size + 2) (⟨0, false, false⟩ : Cm)) := by rw [hw1]; exact F2.out
      have FB : Hid (Below w.heap.size w v_3) := by rw [hw1]; exact FB.out
      rw [← hw1] at hHeld ⊢
      clear hw1
      obtain ⟨x0_0, x0_1, x0_2, x0_3, x0_4, x0_5, x0_6, x0_7, x0_8, x0_9, x0_10, x0_11⟩ := F0.out
      obtain ⟨x1_0, x1_1, x1_2, y1_0, y1_1, y1_2⟩ := F1.out
      refine tkz 0 rfl ?_
      refine tkz 2 rfl ?_
      refine tkz 3 rfl ?_
      refine wpAnyH_ready (rs := [1]) (by kernel_rfl) (by simp) ?_
      refine (AllReadyH.cons rfl (fun K hK => ?_) AllReadyH.nil)
      go_simp
      refine (l1Abs_any _ (by omega) (by omega) _).mono ?_
      rintro e w_ ⟨rfl, hw⟩
      obtain rfl := hw.symm
      clear hw
      try dsimp only
      refine hK.out _ _ (by (try dsimp only); first | exact ⟨x0_0, x0_1, x0_2, x0_3, x0_4, x0_5, x0_6, x0_7, x0_8, x0_9, x0_10, x0_11, x1_0, x1_1, x1_2⟩ | go_keep) (fun hHeld => ?_)
      clear hK K
      try simp only [Act.put, List.getElem_toArray, List.getElem_cons_succ, List.getElem_cons_zero, List.setIfInBounds_toArray, List.set_cons_zero, List.set_cons_succ]
      refine tkz 4 rfl ?_
      refine tkz 5 rfl ?_
      refine tbz 6 rfl ?_
      refine tbz 7 rfl ?_
      refine tbz 8 rfl ?_
      refine tbz 9 rfl ?_
      refine tbz 10 rfl ?_
      refine tbz 11 rfl ?_
      refine tkz 12 rfl ?_
      refine wpAnyH_done (by kernel_rfl) ?_ _
      go_wp2_with fail
      go_meet
      case rel => exact ⟨by rw [HNB.out, k1]; rfl, F0.out, F1.out, F2.out, FB.out⟩
    · have F0 : Hid (HAt wd.drew w.heap.size h) := F0.out.below (Below.refl _ _).drew F0.out.lt
      have F1 : Hid (CW wd.drew (w.heap.size + 1) c) := F1.out.below (Below.refl _ _).drew F1.out.lt
      have F2 : Hid (XW wd.drew (w.heap.size + 2) (⟨0, false, false⟩ : Cm)) := F2.out.below (Below.refl _ _).drew F2.out.lt
      have FB : Hid (Below w.heap.size w wd.drew) := FB.out.drew
      obtain ⟨x0_0, x0_1, x0_2, x0_3, x0_4, x0_5, x0_6, x0_7, x0_8, x0_9, x0_10, x0_11⟩ := F0.out
      obtain ⟨x1_0, x1_1, x1_2, y1_0, y1_1, y1_2⟩ := F1.out
      refine wp_region_held_drew (S := (fun w'' => w''.cell? ⟨w.heap.size, 0, none⟩ = some (.int .i64 h.fl) ∧ w''.cell? ⟨w.heap.size, 1, none⟩ = some (.int .i64 h.gp) ∧ w''.cell? ⟨w.heap.size, 2, none⟩ = some (.int .i64 h.ln) ∧ w''.cell? ⟨w.heap.size, 3, none⟩ = some (.int .i64 h.rf) ∧ w''.cell? ⟨w.heap.size, 4, none⟩ = some (.int .i64 h.sp) ∧ w''.cell? ⟨w.heap.size, 5, none⟩ = some (.int .i64 h.pu) ∧ w''.cell? ⟨w.heap.size, 6, none⟩ = some (.int .i64 h.br) ∧ w''.cell? ⟨w.heap.size, 7, none⟩ = some (.int .i64 h.dr) ∧ w''.cell? ⟨w.heap.size, 8, none⟩ = some (.int .i64 h.lv) ∧ w''.cell? ⟨w.heap.size, 9, none⟩ = some (.int .i64 h.dO) ∧ w''.cell? ⟨w.heap.size, 10, none⟩ = some (.int .i64 h.ld) ∧ w''.cell? ⟨w.heap.size, 11, none⟩ = some (.int .i64 h.qu) ∧ w''.cell? ⟨(w.heap.size + 1), 0, none⟩ = some (.int .i64 c.pos) ∧ w''.cell? ⟨(w.heap.size + 1), 1, none⟩ = some (.int .i64 c.vel) ∧ w''.cell? ⟨(w.heap.size + 1), 2, none⟩ = some (.int .i64 c.door))) (by kernel_rfl) (by (try dsimp only); first | exact ⟨x0_0, x0_1, x0_2, x0_3, x0_4, x0_5, x0_6, x0_7, x0_8, x0_9, x0_10, x0_11, x1_0, x1_1, x1_2⟩ | go_keep) (fun hHeld => ?_)
      obtain ⟨v_4, hw1⟩ : ∃ v_4, v_4 = wd.drew := ⟨_, rfl⟩
      have F0 : Hid (HAt v_4 w.heap.size h) := by rw [hw1]; exact F0.out
      have F1 : Hid (CW v_4 (w.heap.size + 1) c) := by rw [hw1]; exact F1.out
      have F2 : Hid (XW v_4 (w.heap.size + 2) (⟨0, false, false⟩ : Cm)) := by rw [hw1]; exact F2.out
      have FB : Hid (Below w.heap.size w v_4) := by rw [hw1]; exact FB.out
      rw [← hw1] at hHeld ⊢
      clear hw1
      obtain ⟨x0_0, x0_1, x0_2, x0_3, x0_4, x0_5, x0_6, x0_7, x0_8, x0_9, x0_10, x0_11⟩ := F0.out
      obtain ⟨x1_0, x1_1, x1_2, y1_0, y1_1, y1_2⟩ := F1.out
      refine tkz 0 rfl ?_
      refine tkz 2 rfl ?_
      refine tkz 3 rfl ?_
      refine wpAnyH_ready (rs := [1]) (by kernel_rfl) (by simp) ?_
      refine (AllReadyH.cons rfl (fun K hK => ?_) AllReadyH.nil)
      go_simp
      refine (l1Abs_any _ (by omega) (by omega) _).mono ?_
      rintro e w_ ⟨rfl, hw⟩
      obtain rfl := hw.symm
      clear hw
      try dsimp only
      refine hK.out _ _ (by (try dsimp only); first | exact ⟨x0_0, x0_1, x0_2, x0_3, x0_4, x0_5, x0_6, x0_7, x0_8, x0_9, x0_10, x0_11, x1_0, x1_1, x1_2⟩ | go_keep) (fun hHeld => ?_)
      clear hK K
      try simp only [Act.put, List.getElem_toArray, List.getElem_cons_succ, List.getElem_cons_zero, List.setIfInBounds_toArray, List.set_cons_zero, List.set_cons_succ]
      refine tkz 4 rfl ?_
      refine tkz 5 rfl ?_
      refine tkz 6 rfl ?_
      refine tkz 7 rfl ?_
      refine tkz 9 rfl ?_
      refine tkz 10 rfl ?_
      refine wpAnyH_ready (rs := [8]) (by kernel_rfl) (by simp) ?_
      refine (AllReadyH.cons rfl (fun K hK => ?_) AllReadyH.nil)
      go_simp
      refine (l1Abs_any _ (by omega) (by omega) _).mono ?_
      rintro e w_ ⟨rfl, hw⟩
      obtain rfl := hw.symm
      clear hw
      try dsimp only
      refine hK.out _ _ (by (try dsimp only); first | exact ⟨x0_0, x0_1, x0_2, x0_3, x0_4, x0_5, x0_6, x0_7, x0_8, x0_9, x0_10, x0_11, x1_0, x1_1, x1_2⟩ | go_keep) (fun hHeld => ?_)
      clear hK K
      try simp only [Act.put, List.getElem_toArray, List.getElem_cons_succ, List.getElem_cons_zero, List.setIfInBounds_toArray, List.set_cons_zero, List.set_cons_succ]
      refine tkz 11 rfl ?_
      refine tkz 12 rfl ?_
      refine wpAnyH_done (by kernel_rfl) ?_ _
      go_wp2_with fail
      go_meet
      case rel => exact ⟨by rw [HNB.out, k1]; rfl, F0.out, F1.out, F2.out, FB.out⟩
  case rest =>
    obtain ⟨rfl, hh, hc, hr, hB⟩ := hcut
    have F0 : Hid (HAt wc w.heap.size h) := hh
    have F1 : Hid (CW wc (w.heap.size + 1) c) := hc
    have F2 : Hid (XW wc (w.heap.size + 2) (⟨0, false, false⟩ : Cm)) := hr
    have FB : Hid (Below w.heap.size w wc) := hB
    clear hh hc hr hB
    obtain ⟨x2_0, x2_1, x2_2, y2_0, y2_1, y2_2⟩ := F2.out
    try dsimp only at x2_0 x2_1 x2_2
    obtain ⟨x1_0, x1_1, x1_2, y1_0, y1_1, y1_2⟩ := F1.out
    obtain ⟨x0_0, x0_1, x0_2, x0_3, x0_4, x0_5, x0_6, x0_7, x0_8, x0_9, x0_10, x0_11⟩ := F0.out
    cases kb : nb
    · have hno : ¬ (absI d ≤ h.lv ∧ absI c.vel ≤ h.br) := by
        intro hh
        have := HNB.out
        rw [kb, decide_eq_true hh.1, decide_eq_true hh.2] at this
        exact Bool.noConfusion this
      have hx := HX.out
      rw [if_neg hno] at hx
      clear HX HNB hno
      by_cases dn : d < 0
      · rw [if_pos dn] at hx
        have ub := Hs.upP_bd HO.out (-c.vel) (-d)
        obtain ⟨u, hu⟩ : ∃ u, Hs.upP h (-c.vel) (-d) = u := ⟨_, rfl⟩
        rw [hu] at hx ub
        subst hx
        have ec : IntKind.i64.wrap (-u) = -u := IntWalk.i64_in _ (by omega)
        go_wp2_with (go_at_call 55; refine (l4Up_any h HO.out _ _ (by omega) (by omega) _).mono ?_; rw [hu]; rintro e w5 ⟨rfl, hb⟩; have F0 : Hid (HAt w5 w.heap.size h) := F0.out.below hb F0.out.lt; have F1 : Hid (CW w5 (w.heap.size + 1) c) := F1.out.below hb F1.out.lt; have F2 : Hid (XW w5 (w.heap.size + 2) (⟨0, false, false⟩ : Cm)) := F2.out.below hb F2.out.lt; have FB : Hid (Below w.heap.size w w5) := FB.out.trans (hb.mono FB.out.size); clear hb; obtain ⟨x2_0, x2_1, x2_2, y2_0, y2_1, y2_2⟩ := F2.out; try dsimp only at x2_0 x2_1 x2_2)
        exact bodyPost_ret (v := .agg #[.int .i64 (-u), .bool false, .bool false]) (by simp [results, Try.results44, go_sem, x2_0, x2_1, x2_2]) rfl ⟨rfl, by repeat (first | exact FB.out | (refine Below.setCell ?_ (by simp <;> omega) _))⟩
      · rw [if_neg dn] at hx
        obtain ⟨u, hu⟩ : ∃ u, Hs.upP h c.vel d = u := ⟨_, rfl⟩
        rw [hu] at hx
        subst hx
        go_wp2_with (go_at_call 55; refine (l4Up_any h HO.out _ _ (by omega) (by omega) _).mono ?_; rw [hu]; rintro e w5 ⟨rfl, hb⟩; have F0 : Hid (HAt w5 w.heap.size h) := F0.out.below hb F0.out.lt; have F1 : Hid (CW w5 (w.heap.size + 1) c) := F1.out.below hb F1.out.lt; have F2 : Hid (XW w5 (w.heap.size + 2) (⟨0, false, false⟩ : Cm)) := F2.out.below hb F2.out.lt; have FB : Hid (Below w.heap.size w w5) := FB.out.trans (hb.mono FB.out.size); clear hb; obtain ⟨x2_0, x2_1, x2_2, y2_0, y2_1, y2_2⟩ := F2.out; try dsimp only at x2_0 x2_1 x2_2)
        exact bodyPost_ret (v := .agg #[.int .i64 u, .bool false, .bool false]) (by simp [results, Try.results44, go_sem, x2_0, x2_1, x2_2]) rfl ⟨rfl, by repeat (first | exact FB.out | (refine Below.setCell ?_ (by simp <;> omega) _))⟩
    · have hyes : absI d ≤ h.lv ∧ absI c.vel ≤ h.br := by
        have := HNB.out
        rw [kb] at this
        simpa using this.symm
      have hx := HX.out
      rw [if_pos hyes] at hx
      clear HX HNB hyes
      subst hx
      go_wp2
      exact bodyPost_ret (v := .agg #[.int .i64 0, .bool true, .bool false]) (by simp [results, Try.results44, go_sem, x2_0, x2_1, x2_2]) rfl ⟨rfl, by repeat (first | exact FB.out | (refine Below.setCell ?_ (by simp <;> omega) _))⟩
end Go.Proofs.Ythfnphbgjfcdaaa
