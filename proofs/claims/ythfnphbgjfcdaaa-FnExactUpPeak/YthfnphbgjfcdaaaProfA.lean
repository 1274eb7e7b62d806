/-
  The model's push for a path; has a car come to its floor?
-/
import Derived.Test.YthfnphbgjfcdaaaProf
import Derived.Test.YthfnphbgjfcdaaaFnd
import Derived.Test.YthfnphbgjfcdaaaCarV
namespace Go.Proofs.Ythfnphbgjfcdaaa
open Go.RowKit Pl
set_option linter.unusedSimpArgs false
set_option linter.unusedVariables false

set_option maxHeartbeats 4000000 in
theorem l4Up_any (h : Hs) (o : h.Ok) (v p : Int) (v1 : -500 ≤ v) (v2 : v ≤ 500) (w : World) :
    Calls Try.prog 55 #[.agg #[.int .i64 h.fl, .int .i64 h.gp, .int .i64 h.ln, .int .i64 h.rf, .int .i64 h.sp, .int .i64 h.pu, .int .i64 h.br, .int .i64 h.dr, .int .i64 h.lv, .int .i64 h.dO, .int .i64 h.ld, .int .i64 h.qu], .int .i64 v, .int .i64 p] w fun e w' => e = .returned (.int .i64 (Hs.upP h v p)) ∧ Below w.heap.size w w' := by
  have s1 := o.sp1; have s2 := o.sp2; have p1 := o.pu1; have p2 := o.pu2
  have wb := Hs.want_bd o v p v1 v2
  have e1 : IntKind.i64.wrap (v + h.pu) = v + h.pu := IntWalk.i64_in _ (by omega)
  have e2 : IntKind.i64.wrap (v - h.pu) = v - h.pu := IntWalk.i64_in _ (by omega)
  have e3 : IntKind.i64.wrap (max (Hs.want h v p) (v - h.pu) - v) = max (Hs.want h v p) (v - h.pu) - v := IntWalk.i64_in _ (by omega)
  have HE : Hid (clip h.pu (max (Hs.want h v p) (v - h.pu) - v) = Hs.upP h v p) := rfl
  have HM : Hid (min (v + h.pu) (min h.sp (speedP p h.pu)) = Hs.want h v p) := rfl
  clear o
  obtain ⟨W0, hW0⟩ : ∃ W0, W0 = (w.alloc (.cells #[.int .i64 h.fl, .int .i64 h.gp, .int .i64 h.ln, .int .i64 h.rf, .int .i64 h.sp, .int .i64 h.pu, .int .i64 h.br, .int .i64 h.dr, .int .i64 h.lv, .int .i64 h.dO, .int .i64 h.ld, .int .i64 h.qu] 27)) := ⟨_, rfl⟩
  have F0 : Hid (HAt W0 w.heap.size h) := by rw [hW0]; exact HAt.at_ w h _ _ (by simp)
  have FB : Hid (Below w.heap.size w W0) := by rw [hW0]; exact ((Below.refl _ _).alloc (Nat.le_refl _) _)
  have HW0 : Hid (W0 = (w.alloc (.cells #[.int .i64 h.fl, .int .i64 h.gp, .int .i64 h.ln, .int .i64 h.rf, .int .i64 h.sp, .int .i64 h.pu, .int .i64 h.br, .int .i64 h.dr, .int .i64 h.lv, .int .i64 h.dO, .int .i64 h.ld, .int .i64 h.qu] 27))) := hW0
  clear hW0
  go_enter Try.func55, Try.ntmps55
  go_wp2_with fail
  rw [← HW0.out]
  clear HW0
  have F0 : Hid (HAt W0.drew w.heap.size h) := F0.out.below (Below.refl _ _).drew F0.out.lt
  have FB : Hid (Below w.heap.size w W0.drew) := FB.out.drew
  obtain ⟨x0_0, x0_1, x0_2, x0_3, x0_4, x0_5, x0_6, x0_7, x0_8, x0_9, x0_10, x0_11⟩ := F0.out
  refine wp_region_held_drew (S := (fun w'' => w''.cell? ⟨w.heap.size, 0, none⟩ = some (.int .i64 h.fl) ∧ w''.cell? ⟨w.heap.size, 1, none⟩ = some (.int .i64 h.gp) ∧ w''.cell? ⟨w.heap.size, 2, none⟩ = some (.int .i64 h.ln) ∧ w''.cell? ⟨w.heap.size, 3, none⟩ = some (.int .i64 h.rf) ∧ w''.cell? ⟨w.heap.size, 4, none⟩ = some (.int .i64 h.sp) ∧ w''.cell? ⟨w.heap.size, 5, none⟩ = some (.int .i64 h.pu) ∧ w''.cell? ⟨w.heap.size, 6, none⟩ = some (.int .i64 h.br) ∧ w''.cell? ⟨w.heap.size, 7, none⟩ = some (.int .i64 h.dr) ∧ w''.cell? ⟨w.heap.size, 8, none⟩ = some (.int .i64 h.lv) ∧ w''.cell? ⟨w.heap.size, 9, none⟩ = some (.int .i64 h.dO) ∧ w''.cell? ⟨w.heap.size, 10, none⟩ = some (.int .i64 h.ld) ∧ w''.cell? ⟨w.heap.size, 11, none⟩ = some (.int .i64 h.qu))) (by kernel_rfl) (by (try dsimp only); first | exact ⟨x0_0, x0_1, x0_2, x0_3, x0_4, x0_5, x0_6, x0_7, x0_8, x0_9, x0_10, x0_11⟩ | go_keep) (fun hHeld => ?_)
  obtain ⟨v_1, hw1⟩ : ∃ v_1, v_1 = W0.drew := ⟨_, rfl⟩
  have F0 : Hid (HAt v_1 w.heap.size h) := by rw [hw1]; exact F0.out
  have FB : Hid (Below w.heap.size w v_1) := by rw [hw1]; exact FB.out
  rw [← hw1] at hHeld ⊢
  clear hw1
  obtain ⟨x0_0, x0_1, x0_2, x0_3, x0_4, x0_5, x0_6, x0_7, x0_8, x0_9, x0_10, x0_11⟩ := F0.out
  refine tkz 0 rfl ?_
  refine tkz 1 rfl ?_
  refine tkz 2 rfl ?_
  refine tkz 3 rfl ?_
  refine tkz 4 rfl ?_
  refine tkz 5 rfl ?_
  refine tkz 6 rfl ?_
  refine tkz 7 rfl ?_
  refine tkz 8 rfl ?_
  refine wpAnyH_ready (rs := [9]) (by kernel_rfl) (by simp) ?_
  refine (AllReadyH.cons rfl (fun K hK => ?_) AllReadyH.nil)
  go_simp
  refine (l1Speed_any _ _ (by omega) (by omega) _).mono ?_
  rintro e w_ ⟨r, rfl, hbst, hw⟩
  obtain rfl := hw.symm
  clear hw
  obtain rfl := speedP_of hbst
  clear hbst
  try dsimp only
  refine hK.out _ _ (by (try dsimp only); first | exact ⟨x0_0, x0_1, x0_2, x0_3, x0_4, x0_5, x0_6, x0_7, x0_8, x0_9, x0_10, x0_11⟩ | go_keep) (fun hHeld => ?_)
  clear hK K
  try simp only [Act.put, List.getElem_toArray, List.getElem_cons_succ, List.getElem_cons_zero, List.setIfInBounds_toArray, List.set_cons_zero, List.set_cons_succ]
  refine wpAnyH_ready (rs := [10]) (by kernel_rfl) (by simp) ?_
  refine (AllReadyH.cons rfl (fun K hK => ?_) AllReadyH.nil)
  go_simp
  refine (l1Min_any _ _ _).mono ?_
  rintro e w_ ⟨rfl, hw⟩
  obtain rfl := hw.symm
  clear hw
  try dsimp only
  refine hK.out _ _ (by (try dsimp only); first | exact ⟨x0_0, x0_1, x0_2, x0_3, x0_4, x0_5, x0_6, x0_7, x0_8, x0_9, x0_10, x0_11⟩ | go_keep) (fun hHeld => ?_)
  clear hK K
  try simp only [Act.put, List.getElem_toArray, List.getElem_cons_succ, List.getElem_cons_zero, List.setIfInBounds_toArray, List.set_cons_zero, List.set_cons_succ]
  refine wpAnyH_ready (rs := [11]) (by kernel_rfl) (by simp) ?_
  refine (AllReadyH.cons rfl (fun K hK => ?_) AllReadyH.nil)
  go_simp
  refine (l1Min_any _ _ _).mono ?_
  rintro e w_ ⟨rfl, hw⟩
  obtain rfl := hw.symm
  clear hw
  try dsimp only
  refine hK.out _ _ (by (try dsimp only); first | exact ⟨x0_0, x0_1, x0_2, x0_3, x0_4, x0_5, x0_6, x0_7, x0_8, x0_9, x0_10, x0_11⟩ | go_keep) (fun hHeld => ?_)
  clear hK K
  try simp only [Act.put, List.getElem_toArray, List.getElem_cons_succ, List.getElem_cons_zero, List.setIfInBounds_toArray, List.set_cons_zero, List.set_cons_succ]
  refine tkz 12 rfl ?_
  refine wpAnyH_done (by kernel_rfl) ?_ _
  rw [HM.out]
  go_wp2_with fail
  obtain ⟨wd, hwd⟩ : ∃ wd, wd = v_1 := ⟨_, rfl⟩
  subst hwd
  have F0 : Hid (HAt wd.drew w.heap.size h) := F0.out.below (Below.refl _ _).drew F0.out.lt
  have FB : Hid (Below w.heap.size w wd.drew) := FB.out.drew
  obtain ⟨x0_0, x0_1, x0_2, x0_3, x0_4, x0_5, x0_6, x0_7, x0_8, x0_9, x0_10, x0_11⟩ := F0.out
  refine wp_region_held_drew (S := (fun w'' => w''.cell? ⟨w.heap.size, 0, none⟩ = some (.int .i64 h.fl) ∧ w''.cell? ⟨w.heap.size, 1, none⟩ = some (.int .i64 h.gp) ∧ w''.cell? ⟨w.heap.size, 2, none⟩ = some (.int .i64 h.ln) ∧ w''.cell? ⟨w.heap.size, 3, none⟩ = some (.int .i64 h.rf) ∧ w''.cell? ⟨w.heap.size, 4, none⟩ = some (.int .i64 h.sp) ∧ w''.cell? ⟨w.heap.size, 5, none⟩ = some (.int .i64 h.pu) ∧ w''.cell? ⟨w.heap.size, 6, none⟩ = some (.int .i64 h.br) ∧ w''.cell? ⟨w.heap.size, 7, none⟩ = some (.int .i64 h.dr) ∧ w''.cell? ⟨w.heap.size, 8, none⟩ = some (.int .i64 h.lv) ∧ w''.cell? ⟨w.heap.size, 9, none⟩ = some (.int .i64 h.dO) ∧ w''.cell? ⟨w.heap.size, 10, none⟩ = some (.int .i64 h.ld) ∧ w''.cell? ⟨w.heap.size, 11, none⟩ = some (.int .i64 h.qu))) (by kernel_rfl) (by (try dsimp only); first | exact ⟨x0_0, x0_1, x0_2, x0_3, x0_4, x0_5, x0_6, x0_7, x0_8, x0_9, x0_10, x0_11⟩ | go_keep) (fun hHeld => ?_)
  obtain ⟨v_2, hw1⟩ : ∃ v_2, v_2 = wd.drew := ⟨_, rfl⟩
  have F0 : Hid (HAt v_2 w.heap.size h) := by rw [hw1]; exact F0.out
  have FB : Hid (Below w.heap.size w v_2) := by rw [hw1]; exact FB.out
  rw [← hw1] at hHeld ⊢
  clear hw1
  obtain ⟨x0_0, x0_1, x0_2, x0_3, x0_4, x0_5, x0_6, x0_7, x0_8, x0_9, x0_10, x0_11⟩ := F0.out
  refine tkz 0 rfl ?_
  refine tkz 1 rfl ?_
  refine tkz 2 rfl ?_
  refine tkz 3 rfl ?_
  refine tkz 4 rfl ?_
  refine tkz 6 rfl ?_
  refine tkz 8 rfl ?_
  refine tkz 9 rfl ?_
  refine wpAnyH_ready (rs := [5]) (by kernel_rfl) (by simp) ?_
  refine (AllReadyH.cons rfl (fun K hK => ?_) AllReadyH.nil)
  go_simp
  refine (l1Max_any _ _ _).mono ?_
  rintro e w_ ⟨rfl, hw⟩
  obtain rfl := hw.symm
  clear hw
  try dsimp only
  refine hK.out _ _ (by (try dsimp only); first | exact ⟨x0_0, x0_1, x0_2, x0_3, x0_4, x0_5, x0_6, x0_7, x0_8, x0_9, x0_10, x0_11⟩ | go_keep) (fun hHeld => ?_)
  clear hK K
  try simp only [Act.put, List.getElem_toArray, List.getElem_cons_succ, List.getElem_cons_zero, List.setIfInBounds_toArray, List.set_cons_zero, List.set_cons_succ]
  refine tkz 7 rfl ?_
  refine wpAnyH_ready (rs := [10]) (by kernel_rfl) (by simp) ?_
  refine (AllReadyH.cons rfl (fun K hK => ?_) AllReadyH.nil)
  go_simp
  refine (l1ClipM_any _ _ (by omega) (by omega) _).mono ?_
  rintro e w_ ⟨rfl, hw⟩
  obtain rfl := hw.symm
  clear hw
  try dsimp only
  refine hK.out _ _ (by (try dsimp only); first | exact ⟨x0_0, x0_1, x0_2, x0_3, x0_4, x0_5, x0_6, x0_7, x0_8, x0_9, x0_10, x0_11⟩ | go_keep) (fun hHeld => ?_)
  clear hK K
  try simp only [Act.put, List.getElem_toArray, List.getElem_cons_succ, List.getElem_cons_zero, List.setIfInBounds_toArray, List.set_cons_zero, List.set_cons_succ]
  refine tkz 11 rfl ?_
  refine wpAnyH_done (by kernel_rfl) ?_ _
  rw [HE.out]
  go_wp2
  go_ret
  exact ⟨rfl, FB.out⟩

set_option maxHeartbeats 2000000 in
theorem l4Reached_go (h : Hs) (c : Cs) (f : Int) (vz : (c.vel == 0) = false) (w : World) :
    Calls Try.prog 42 #[.agg #[.int .i64 h.fl, .int .i64 h.gp, .int .i64 h.ln, .int .i64 h.rf, .int .i64 h.sp, .int .i64 h.pu, .int .i64 h.br, .int .i64 h.dr, .int .i64 h.lv, .int .i64 h.dO, .int .i64 h.ld, .int .i64 h.qu], .agg #[.int .i64 c.pos, .int .i64 c.vel, .int .i64 c.door], .int .i64 f] w fun e w' => e = .returned (.bool false) ∧ Below w.heap.size w w' := by
  obtain ⟨W0, hW0⟩ : ∃ W0, W0 = ((w.alloc (.cells #[.int .i64 h.fl, .int .i64 h.gp, .int .i64 h.ln, .int .i64 h.rf, .int .i64 h.sp, .int .i64 h.pu, .int .i64 h.br, .int .i64 h.dr, .int .i64 h.lv, .int .i64 h.dO, .int .i64 h.ld, .int .i64 h.qu] 27)).alloc (.cells #[.int .i64 c.pos, .int .i64 c.vel, .int .i64 c.door] 44)) := ⟨_, rfl⟩
  have F0 : Hid (HAt W0 w.heap.size h) := by rw [hW0]; exact (HAt.at_ w h _ _ (by simp)).alloc _
  have F1 : Hid (CW W0 (w.heap.size + 1) c) := by rw [hW0]; exact CW.at_ _ c _ _ (by simp)
  have FB : Hid (Below w.heap.size w W0) := by rw [hW0]; exact (((Below.refl _ _).alloc (Nat.le_refl _) _).alloc (by simp <;> omega) _)
  have HW0 : Hid (W0 = ((w.alloc (.cells #[.int .i64 h.fl, .int .i64 h.gp, .int .i64 h.ln, .int .i64 h.rf, .int .i64 h.sp, .int .i64 h.pu, .int .i64 h.br, .int .i64 h.dr, .int .i64 h.lv, .int .i64 h.dO, .int .i64 h.ld, .int .i64 h.qu] 27)).alloc (.cells #[.int .i64 c.pos, .int .i64 c.vel, .int .i64 c.door] 44))) := hW0
  clear hW0
  go_enter Try.func42, Try.ntmps42
  go_wp2_with fail
  rw [← HW0.out]
  clear HW0
  have F0 : Hid (HAt W0.drew w.heap.size h) := F0.out.below (Below.refl _ _).drew F0.out.lt
  have F1 : Hid (CW W0.drew (w.heap.size + 1) c) := F1.out.below (Below.refl _ _).drew F1.out.lt
  have FB : Hid (Below w.heap.size w W0.drew) := FB.out.drew
  obtain ⟨x0_0, x0_1, x0_2, x0_3, x0_4, x0_5, x0_6, x0_7, x0_8, x0_9, x0_10, x0_11⟩ := F0.out
  obtain ⟨x1_0, x1_1, x1_2, y1_0, y1_1, y1_2⟩ := F1.out
  refine wp_region_held_drew (S := (fun w'' => w''.cell? ⟨w.heap.size, 0, none⟩ = some (.int .i64 h.fl) ∧ w''.cell? ⟨w.heap.size, 1, none⟩ = some (.int .i64 h.gp) ∧ w''.cell? ⟨w.heap.size, 2, none⟩ = some (.int .i64 h.ln) ∧ w''.cell? ⟨w.heap.size, 3, none⟩ = some (.int .i64 h.rf) ∧ w''.cell? ⟨w.heap.size, 4, none⟩ = some (.int .i64 h.sp) ∧ w''.cell? ⟨w.heap.size, 5, none⟩ = some (.int .i64 h.pu) ∧ w''.cell? ⟨w.heap.size, 6, none⟩ = some (.int .i64 h.br) ∧ w''.cell? ⟨w.heap.size, 7, none⟩ = some (.int .i64 h.dr) ∧ w''.cell? ⟨w.heap.size, 8, none⟩ = some (.int .i64 h.lv) ∧ w''.cell? ⟨w.heap.size, 9, none⟩ = some (.int .i64 h.dO) ∧ w''.cell? ⟨w.heap.size, 10, none⟩ = some (.int .i64 h.ld) ∧ w''.cell? ⟨w.heap.size, 11, none⟩ = some (.int .i64 h.qu) ∧ w''.cell? ⟨(w.heap.size + 1), 0, none⟩ = some (.int .i64 c.pos) ∧ w''.cell? ⟨(w.heap.size + 1), 1, none⟩ = some (.int .i64 c.vel) ∧ w''.cell? ⟨(w.heap.size + 1), 2, none⟩ = some (.int .i64 c.door))) (by kernel_rfl) (by (try dsimp only); first | exact ⟨x0_0, x0_1, x0_2, x0_3, x0_4, x0_5, x0_6, x0_7, x0_8, x0_9, x0_10, x0_11, x1_0, x1_1, x1_2⟩ | go_keep) (fun hHeld => ?_)
  obtain ⟨v_3, hw1⟩ : ∃ v_3, v_3 = W0.drew := ⟨_, rfl⟩
  have F0 : Hid (HAt v_3 w.heap.size h) := by rw [hw1]; exact F0.out
  have F1 : Hid (CW v_3 (w.heap.size + 1) c) := by rw [hw1]; exact F1.out
  have FB : Hid (Below w.heap.size w v_3) := by rw [hw1]; exact FB.out
  rw [← hw1] at hHeld ⊢
  clear hw1
  obtain ⟨x0_0, x0_1, x0_2, x0_3, x0_4, x0_5, x0_6, x0_7, x0_8, x0_9, x0_10, x0_11⟩ := F0.out
  obtain ⟨x1_0, x1_1, x1_2, y1_0, y1_1, y1_2⟩ := F1.out
  refine tkz 0 rfl ?_
  refine tkz 1 rfl ?_
  refine tkz 2 rfl ?_
  refine tkz 3 rfl ?_
  refine tbz 4 rfl ?_
  refine tbz 5 rfl ?_
  refine tbz 6 rfl ?_
  refine tbz 7 rfl ?_
  refine tbz 8 rfl ?_
  refine tbz 9 rfl ?_
  refine tbz 10 rfl ?_
  refine tbz 11 rfl ?_
  refine tbz 12 rfl ?_
  refine tbz 13 rfl ?_
  refine tkz 14 rfl ?_
  refine tkz 15 rfl ?_
  refine wpAnyH_done (by kernel_rfl) ?_ _
  go_wp2
  go_ret
  exact ⟨rfl, FB.out⟩
set_option maxHeartbeats 2000000 in
theorem l4Reached_st (h : Hs) (o : h.Ok) (c : Cs) (f : Int) (f1 : -1 ≤ f) (f2 : f ≤ 12) (p1 : -100000000 ≤ c.pos) (p2 : c.pos ≤ 100000000) (vz : (c.vel == 0) = true) (w : World) :
    Calls Try.prog 42 #[.agg #[.int .i64 h.fl, .int .i64 h.gp, .int .i64 h.ln, .int .i64 h.rf, .int .i64 h.sp, .int .i64 h.pu, .int .i64 h.br, .int .i64 h.dr, .int .i64 h.lv, .int .i64 h.dO, .int .i64 h.ld, .int .i64 h.qu], .agg #[.int .i64 c.pos, .int .i64 c.vel, .int .i64 c.door], .int .i64 f] w fun e w' => e = .returned (.bool (Hs.near h c f)) ∧ Below w.heap.size w w' := by
  obtain ⟨b1, b2⟩ := o.level_bd f (by omega) f2
  have e1 : IntKind.i64.wrap (c.pos - h.level f) = c.pos - h.level f := IntWalk.i64_in _ (by omega)
  have HO : Hid h.Ok := o
  clear o
  obtain ⟨W0, hW0⟩ : ∃ W0, W0 = ((w.alloc (.cells #[.int .i64 h.fl, .int .i64 h.gp, .int .i64 h.ln, .int .i64 h.rf, .int .i64 h.sp, .int .i64 h.pu, .int .i64 h.br, .int .i64 h.dr, .int .i64 h.lv, .int .i64 h.dO, .int .i64 h.ld, .int .i64 h.qu] 27)).alloc (.cells #[.int .i64 c.pos, .int .i64 c.vel, .int .i64 c.door] 44)) := ⟨_, rfl⟩
  have F0 : Hid (HAt W0 w.heap.size h) := by rw [hW0]; exact (HAt.at_ w h _ _ (by simp)).alloc _
  have F1 : Hid (CW W0 (w.heap.size + 1) c) := by rw [hW0]; exact CW.at_ _ c _ _ (by simp)
  have FB : Hid (Below w.heap.size w W0) := by rw [hW0]; exact (((Below.refl _ _).alloc (Nat.le_refl _) _).alloc (by simp <;> omega) _)
  have HW0 : Hid (W0 = ((w.alloc (.cells #[.int .i64 h.fl, .int .i64 h.gp, .int .i64 h.ln, .int .i64 h.rf, .int .i64 h.sp, .int .i64 h.pu, .int .i64 h.br, .int .i64 h.dr, .int .i64 h.lv, .int .i64 h.dO, .int .i64 h.ld, .int .i64 h.qu] 27)).alloc (.cells #[.int .i64 c.pos, .int .i64 c.vel, .int .i64 c.door] 44))) := hW0
  clear hW0
  go_enter Try.func42, Try.ntmps42
  go_wp2_with fail
  rw [← HW0.out]
  clear HW0
  have F0 : Hid (HAt W0.drew w.heap.size h) := F0.out.below (Below.refl _ _).drew F0.out.lt
  have F1 : Hid (CW W0.drew (w.heap.size + 1) c) := F1.out.below (Below.refl _ _).drew F1.out.lt
  have FB : Hid (Below w.heap.size w W0.drew) := FB.out.drew
  obtain ⟨x0_0, x0_1, x0_2, x0_3, x0_4, x0_5, x0_6, x0_7, x0_8, x0_9, x0_10, x0_11⟩ := F0.out
  obtain ⟨x1_0, x1_1, x1_2, y1_0, y1_1, y1_2⟩ := F1.out
  refine wp_region_held_drew (S := (fun w'' => w''.cell? ⟨w.heap.size, 0, none⟩ = some (.int .i64 h.fl) ∧ w''.cell? ⟨w.heap.size, 1, none⟩ = some (.int .i64 h.gp) ∧ w''.cell? ⟨w.heap.size, 2, none⟩ = some (.int .i64 h.ln) ∧ w''.cell? ⟨w.heap.size, 3, none⟩ = some (.int .i64 h.rf) ∧ w''.cell? ⟨w.heap.size, 4, none⟩ = some (.int .i64 h.sp) ∧ w''.cell? ⟨w.heap.size, 5, none⟩ = some (.int .i64 h.pu) ∧ w''.cell? ⟨w.heap.size, 6, none⟩ = some (.int .i64 h.br) ∧ w''.cell? ⟨w.heap.size, 7, none⟩ = some (.int .i64 h.dr) ∧ w''.cell? ⟨w.heap.size, 8, none⟩ = some (.int .i64 h.lv) ∧ w''.cell? ⟨w.heap.size, 9, none⟩ = some (.int .i64 h.dO) ∧ w''.cell? ⟨w.heap.size, 10, none⟩ = some (.int .i64 h.ld) ∧ w''.cell? ⟨w.heap.size, 11, none⟩ = some (.int .i64 h.qu) ∧ w''.cell? ⟨(w.heap.size + 1), 0, none⟩ = some (.int .i64 c.pos) ∧ w''.cell? ⟨(w.heap.size + 1), 1, none⟩ = some (.int .i64 c.vel) ∧ w''.cell? ⟨(w.heap.size + 1), 2, none⟩ = some (.int .i64 c.door))) (by kernel_rfl) (by (try dsimp only); first | exact ⟨x0_0, x0_1, x0_2, x0_3, x0_4, x0_5, x0_6, x0_7, x0_8, x0_9, x0_10, x0_11, x1_0, x1_1, x1_2⟩ | go_keep) (fun hHeld => ?_)
  obtain ⟨v_4, hw1⟩ : ∃ v_4, v_4 = W0.drew := ⟨_, rfl⟩
  have F0 : Hid (HAt v_4 w.heap.size h) := by rw [hw1]; exact F0.out
  have F1 : Hid (CW v_4 (w.heap.size + 1) c) := by rw [hw1]; exact F1.out
  have FB : Hid (Below w.heap.size w v_4) := by rw [hw1]; exact FB.out
  rw [← hw1] at hHeld ⊢
  clear hw1
  obtain ⟨x0_0, x0_1, x0_2, x0_3, x0_4, x0_5, x0_6, x0_7, x0_8, x0_9, x0_10, x0_11⟩ := F0.out
  obtain ⟨x1_0, x1_1, x1_2, y1_0, y1_1, y1_2⟩ := F1.out
  refine tkz 0 rfl ?_
  refine tkz 1 rfl ?_
  refine tkz 2 rfl ?_
  refine tkz 3 rfl ?_
  refine tkz 4 rfl ?_
  refine tkz 5 rfl ?_
  refine tkz 6 rfl ?_
  refine tkz 7 rfl ?_
  refine tkz 11 rfl ?_
  refine tkz 12 rfl ?_
  refine wpAnyH_ready (rs := [8]) (by kernel_rfl) (by simp) ?_
  refine (AllReadyH.cons rfl (fun K hK => ?_) AllReadyH.nil)
  go_simp
  refine (specLevel_below h HO.out _ (by omega) (by omega) _).mono ?_
  rintro e v_5 ⟨rfl, hb⟩
  have F0 : Hid (HAt v_5 w.heap.size h) := F0.out.below hb F0.out.lt
  have F1 : Hid (CW v_5 (w.heap.size + 1) c) := F1.out.below hb F1.out.lt
  have FB : Hid (Below w.heap.size w v_5) := FB.out.trans (hb.mono FB.out.size)
  clear hb
  obtain ⟨x0_0, x0_1, x0_2, x0_3, x0_4, x0_5, x0_6, x0_7, x0_8, x0_9, x0_10, x0_11⟩ := F0.out
  obtain ⟨x1_0, x1_1, x1_2, y1_0, y1_1, y1_2⟩ := F1.out
  try dsimp only
  refine hK.out _ _ (by (try dsimp only); first | exact ⟨x0_0, x0_1, x0_2, x0_3, x0_4, x0_5, x0_6, x0_7, x0_8, x0_9, x0_10, x0_11, x1_0, x1_1, x1_2⟩ | go_keep) (fun hHeld => ?_)
  clear hK K
  try simp only [Act.put, List.getElem_toArray, List.getElem_cons_succ, List.getElem_cons_zero, List.setIfInBounds_toArray, List.set_cons_zero, List.set_cons_succ]
  refine tkz 9 rfl ?_
  refine wpAnyH_ready (rs := [10]) (by kernel_rfl) (by simp) ?_
  refine (AllReadyH.cons rfl (fun K hK => ?_) AllReadyH.nil)
  go_simp
  refine (l1Abs_any _ (by omega) (by omega) _).mono ?_
  rintro e w_ ⟨rfl, hw⟩
  obtain rfl := hw.symm
  clear hw
  try dsimp only
  refine hK.out _ _ (by (try dsimp only); first | exact ⟨x0_0, x0_1, x0_2, x0_3, x0_4, x0_5, x0_6, x0_7, x0_8, x0_9, x0_10, x0_11, x1_0, x1_1, x1_2⟩ | go_keep) (fun hHeld => ?_)
  clear hK K
  try simp only [Act.put, List.getElem_toArray, List.getElem_cons_succ, List.getElem_cons_zero, List.setIfInBounds_toArray, List.set_cons_zero, List.set_cons_succ]
  refine tkz 13 rfl ?_
  refine tkz 14 rfl ?_
  refine tkz 15 rfl ?_
  refine wpAnyH_done (by kernel_rfl) ?_ _
  go_wp2
  go_ret
  exact ⟨rfl, FB.out⟩
/-- Has a car come to a floor or refuge? -/
def Hs.reachB (h : Hs) (c : Cs) (f : Int) : Bool := (c.vel == 0) && Hs.near h c f
theorem l4Reached_any (h : Hs) (o : h.Ok) (c : Cs) (f : Int) (f1 : -1 ≤ f) (f2 : f ≤ 12) (p1 : -100000000 ≤ c.pos) (p2 : c.pos ≤ 100000000) (w : World) :
    Calls Try.prog 42 #[.agg #[.int .i64 h.fl, .int .i64 h.gp, .int .i64 h.ln, .int .i64 h.rf, .int .i64 h.sp, .int .i64 h.pu, .int .i64 h.br, .int .i64 h.dr, .int .i64 h.lv, .int .i64 h.dO, .int .i64 h.ld, .int .i64 h.qu], .agg #[.int .i64 c.pos, .int .i64 c.vel, .int .i64 c.door], .int .i64 f] w fun e w' => e = .returned (.bool (Hs.reachB h c f)) ∧ Below w.heap.size w w' := by
  unfold Hs.reachB
  cases vz : (c.vel == 0) with
  | false => exact l4Reached_go h c f vz w
  | true => exact l4Reached_st h o c f f1 f2 p1 p2 vz w
end Go.Proofs.Ythfnphbgjfcdaaa
