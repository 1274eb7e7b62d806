/-
  The model's spans: the floor at which a car is; spans that grow.
-/
import Derived.Test.YtpfihpplpefikaaSpanA
import Derived.Test.YtpfihpplpefikaaHouseP
namespace Go.Proofs.Ytpfihpplpefikaa
open Go.RowKit Pl
set_option linter.unusedSimpArgs false
set_option linter.unusedVariables false

set_option maxRecDepth 20000 in
set_option maxHeartbeats 8000000 in
theorem l6At_any (h : Hs) (o : h.Ok) (c : Cs) (w : World) :
    Calls Try.prog 58 #[.agg #[.int .i64 h.fl, .int .i64 h.gp, .int .i64 h.ln, .int .i64 h.rf, .int .i64 h.sp, .int .i64 h.pu, .int .i64 h.br, .int .i64 h.dr, .int .i64 h.lv, .int .i64 h.dO, .int .i64 h.ld, .int .i64 h.qu], .agg #[.int .i64 c.pos, .int .i64 c.vel, .int .i64 c.door]] w fun e w' => e = .returned (.int .i64 (Hs.at6 h c.pos)) ∧ Below w.heap.size w w' := by
  have l1 := o.fl1; have l2 := o.fl2
  have v1 := o.level_bd (-1) (by omega) (by omega)
  have v2 := o.level_bd h.fl (by omega) (by omega)
  have HO : Hid h.Ok := o
  clear o
  obtain ⟨W0, hW0⟩ : ∃ W0, W0 = ((w.alloc (.cells #[.int .i64 h.fl, .int .i64 h.gp, .int .i64 h.ln, .int .i64 h.rf, .int .i64 h.sp, .int .i64 h.pu, .int .i64 h.br, .int .i64 h.dr, .int .i64 h.lv, .int .i64 h.dO, .int .i64 h.ld, .int .i64 h.qu] 25)).alloc (.cells #[.int .i64 c.pos, .int .i64 c.vel, .int .i64 c.door] 38)) := ⟨_, rfl⟩
  have F0 : Hid (HAt ((w.alloc (.cells #[.int .i64 h.fl, .int .i64 h.gp, .int .i64 h.ln, .int .i64 h.rf, .int .i64 h.sp, .int .i64 h.pu, .int .i64 h.br, .int .i64 h.dr, .int .i64 h.lv, .int .i64 h.dO, .int .i64 h.ld, .int .i64 h.qu] 25)).alloc (.cells #[.int .i64 c.pos, .int .i64 c.vel, .int .i64 c.door] 38)) w.heap.size h) := (HAt.at_ w h _ _ (by simp)).alloc _
  have F1 : Hid (CW ((w.alloc (.cells #[.int .i64 h.fl, .int .i64 h.gp, .int .i64 h.ln, .int .i64 h.rf, .int .i64 h.sp, .int .i64 h.pu, .int .i64 h.br, .int .i64 h.dr, .int .i64 h.lv, .int .i64 h.dO, .int .i64 h.ld, .int .i64 h.qu] 25)).alloc (.cells #[.int .i64 c.pos, .int .i64 c.vel, .int .i64 c.door] 38)) (w.heap.size + 1) c) := CW.at_ (w.alloc (.cells #[.int .i64 h.fl, .int .i64 h.gp, .int .i64 h.ln, .int .i64 h.rf, .int .i64 h.sp, .int .i64 h.pu, .int .i64 h.br, .int .i64 h.dr, .int .i64 h.lv, .int .i64 h.dO, .int .i64 h.ld, .int .i64 h.qu] 25)) c _ _ (by simp)
  have FB : Hid (Below w.heap.size w ((w.alloc (.cells #[.int .i64 h.fl, .int .i64 h.gp, .int .i64 h.ln, .int .i64 h.rf, .int .i64 h.sp, .int .i64 h.pu, .int .i64 h.br, .int .i64 h.dr, .int .i64 h.lv, .int .i64 h.dO, .int .i64 h.ld, .int .i64 h.qu] 25)).alloc (.cells #[.int .i64 c.pos, .int .i64 c.vel, .int .i64 c.door] 38))) := (((Below.refl _ _).alloc (Nat.le_refl _) _).alloc (by simp <;> omega) _)
  rw [← hW0] at F0 F1 FB
  have HW0 : Hid (W0 = ((w.alloc (.cells #[.int .i64 h.fl, .int .i64 h.gp, .int .i64 h.ln, .int .i64 h.rf, .int .i64 h.sp, .int .i64 h.pu, .int .i64 h.br, .int .i64 h.dr, .int .i64 h.lv, .int .i64 h.dO, .int .i64 h.ld, .int .i64 h.qu] 25)).alloc (.cells #[.int .i64 c.pos, .int .i64 c.vel, .int .i64 c.door] 38))) := hW0
  clear hW0
  go_enter Try.func58, Try.ntmps58
  go_wp2_with fail
  rw [← HW0.out]
  clear HW0
  have F0 : Hid (HAt W0.drew w.heap.size h) := F0.out.below (Below.refl _ _).drew F0.out.lt
  have F1 : Hid (CW W0.drew (w.heap.size + 1) c) := F1.out.below (Below.refl _ _).drew F1.out.lt
  have FB : Hid (Below w.heap.size w W0.drew) := FB.out.drew
  obtain ⟨x0_0, x0_1, x0_2, x0_3, x0_4, x0_5, x0_6, x0_7, x0_8, x0_9, x0_10, x0_11⟩ := F0.out
  obtain ⟨x1_0, x1_1, x1_2, y1_0, y1_1, y1_2⟩ := F1.out
  refine wp_region_held_drew (S := (fun w'' => w''.cell? ⟨w.heap.size, 0, none⟩ = some (.int .i64 h.fl) ∧ w''.cell? ⟨w.heap.size, 1, none⟩ = some (.int .i64 h.gp) ∧ w''.cell? ⟨w.heap.size, 2, none⟩ = some (.int .i64 h.ln) ∧ w''.cell? ⟨w.heap.size, 3, none⟩ = some (.int .i64 h.rf) ∧ w''.cell? ⟨w.heap.size, 4, none⟩ = some (.int .i64 h.sp) ∧ w''.cell? ⟨w.heap.size, 5, none⟩ = some (.int .i64 h.pu) ∧ w''.cell? ⟨w.heap.size, 6, none⟩ = some (.int .i64 h.br) ∧ w''.cell? ⟨w.heap.size, 7, none⟩ = some (.int .i64 h.dr) ∧ w''.cell? ⟨w.heap.size, 8, none⟩ = some (.int .i64 h.lv) ∧ w''.cell? ⟨w.heap.size, 9, none⟩ = some (.int .i64 h.dO) ∧ w''.cell? ⟨w.heap.size, 10, none⟩ = some (.int .i64 h.ld) ∧ w''.cell? ⟨w.heap.size, 11, none⟩ = some (.int .i64 h.qu) ∧ w''.cell? ⟨(w.heap.size + 1), 0, none⟩ = some (.int .i64 c.pos) ∧ w''.cell? ⟨(w.heap.size + 1), 1, none⟩ = some (.int .i64 c.vel) ∧ w''.cell? ⟨(w.heap.size + 1), 2, none⟩ = some (.int .i64 c.door))) (by kernel_rfl) (by (try dsimp only); first | exact ⟨x0_0, x0_1, x0_2, x0_3, x0_4, x0_5, x0_6, x0_7, x0_8, x0_9, x0_10, x0_11, x1_0, x1_1, x1_2⟩ | go_keep) (fun hHeld => ?_)
  obtain ⟨v_1, hw1⟩ : ∃ v_1, v_1 = W0.drew := ⟨_, rfl⟩
  have F0 : Hid (HAt v_1 w.heap.size h) := by rw [hw1]; exact F0.out
  have F1 : Hid (CW v_1 (w.heap.size + 1) c) := by rw [hw1]; exact F1.out
  have FB : Hid (Below w.heap.size w v_1) := by rw [hw1]; exact FB.out
  rw [← hw1] at hHeld ⊢
  clear hw1
  obtain ⟨x0_0, x0_1, x0_2, x0_3, x0_4, x0_5, x0_6, x0_7, x0_8, x0_9, x0_10, x0_11⟩ := F0.out
  obtain ⟨x1_0, x1_1, x1_2, y1_0, y1_1, y1_2⟩ := F1.out
  refine tkz 0 rfl ?_
  refine tkz 1 rfl ?_
  refine tkz 3 rfl ?_
  refine tkz 4 rfl ?_
  refine tkz 5 rfl ?_
  refine tkz 7 rfl ?_
  refine tkz 8 rfl ?_
  refine wpAnyH_ready (rs := [2]) (by kernel_rfl) (by simp) ?_
  refine (AllReadyH.cons rfl (fun K hK => ?_) AllReadyH.nil)
  go_simp
  refine (specLevel_below h HO.out _ (by omega) (by omega) _).mono ?_
  rintro e v_2 ⟨rfl, hb⟩
  have F0 : Hid (HAt v_2 w.heap.size h) := F0.out.below hb F0.out.lt
  have F1 : Hid (CW v_2 (w.heap.size + 1) c) := F1.out.below hb F1.out.lt
  have FB : Hid (Below w.heap.size w v_2) := FB.out.trans (hb.mono FB.out.size)
  clear hb
  obtain ⟨x0_0, x0_1, x0_2, x0_3, x0_4, x0_5, x0_6, x0_7, x0_8, x0_9, x0_10, x0_11⟩ := F0.out
  obtain ⟨x1_0, x1_1, x1_2, y1_0, y1_1, y1_2⟩ := F1.out
  try dsimp only
  refine hK.out _ _ (by (try dsimp only); first | exact ⟨x0_0, x0_1, x0_2, x0_3, x0_4, x0_5, x0_6, x0_7, x0_8, x0_9, x0_10, x0_11, x1_0, x1_1, x1_2⟩ | go_keep) (fun hHeld => ?_)
  clear hK K
  try simp only [Act.put, List.getElem_toArray, List.getElem_cons_succ, List.getElem_cons_zero, List.setIfInBounds_toArray, List.set_cons_zero, List.set_cons_succ]
  refine wpAnyH_ready (rs := [6]) (by kernel_rfl) (by simp) ?_
  refine (AllReadyH.cons rfl (fun K hK => ?_) AllReadyH.nil)
  go_simp
  refine (specLevel_below h HO.out _ (by omega) (by omega) _).mono ?_
  rintro e v_3 ⟨rfl, hb⟩
  have F0 : Hid (HAt v_3 w.heap.size h) := F0.out.below hb F0.out.lt
  have F1 : Hid (CW v_3 (w.heap.size + 1) c) := F1.out.below hb F1.out.lt
  have FB : Hid (Below w.heap.size w v_3) := FB.out.trans (hb.mono FB.out.size)
  clear hb
  obtain ⟨x0_0, x0_1, x0_2, x0_3, x0_4, x0_5, x0_6, x0_7, x0_8, x0_9, x0_10, x0_11⟩ := F0.out
  obtain ⟨x1_0, x1_1, x1_2, y1_0, y1_1, y1_2⟩ := F1.out
  try dsimp only
  refine hK.out _ _ (by (try dsimp only); first | exact ⟨x0_0, x0_1, x0_2, x0_3, x0_4, x0_5, x0_6, x0_7, x0_8, x0_9, x0_10, x0_11, x1_0, x1_1, x1_2⟩ | go_keep) (fun hHeld => ?_)
  clear hK K
  try simp only [Act.put, List.getElem_toArray, List.getElem_cons_succ, List.getElem_cons_zero, List.setIfInBounds_toArray, List.set_cons_zero, List.set_cons_succ]
  refine wpAnyH_ready (rs := [9]) (by kernel_rfl) (by simp) ?_
  refine (AllReadyH.cons rfl (fun K hK => ?_) AllReadyH.nil)
  go_simp
  refine (l1Min_any _ _ _).mono ?_
  rintro e w_ ⟨rfl, hw⟩
  obtain rfl := hw.symm
  clear hw
  try dsimp only
  refine hK.out _ _ (by (try dsimp only); first | exact ⟨x0_0, x0_1, x0_2, x0_3, x0_4, x0_5, x0_6, x0_7, x0_8, x0_9, x0_10, x0_11, x1_0, x1_1, x1_2⟩ | go_keep) (fun hHeld => ?_)
  clear hK K
  try simp only [Act.put, List.getElem_toArray, List.getElem_cons_succ, List.getElem_cons_zero, List.setIfInBounds_toArray, List.set_cons_zero, List.set_cons_succ]
  refine wpAnyH_ready (rs := [10]) (by kernel_rfl) (by simp) ?_
  refine (AllReadyH.cons rfl (fun K hK => ?_) AllReadyH.nil)
  go_simp
  refine (l1Max_any _ _ _).mono ?_
  rintro e w_ ⟨rfl, hw⟩
  obtain rfl := hw.symm
  clear hw
  try dsimp only
  refine hK.out _ _ (by (try dsimp only); first | exact ⟨x0_0, x0_1, x0_2, x0_3, x0_4, x0_5, x0_6, x0_7, x0_8, x0_9, x0_10, x0_11, x1_0, x1_1, x1_2⟩ | go_keep) (fun hHeld => ?_)
  clear hK K
  try simp only [Act.put, List.getElem_toArray, List.getElem_cons_succ, List.getElem_cons_zero, List.setIfInBounds_toArray, List.set_cons_zero, List.set_cons_succ]
  refine wpAnyH_ready (rs := [11]) (by kernel_rfl) (by simp) ?_
  refine (AllReadyH.cons rfl (fun K hK => ?_) AllReadyH.nil)
  go_simp
  refine (specNear_any h HO.out _ (by omega) (by omega) _).mono ?_
  rintro e v_4 ⟨r, hr, rfl, hb⟩
  have F0 : Hid (HAt v_4 w.heap.size h) := F0.out.below hb F0.out.lt
  have F1 : Hid (CW v_4 (w.heap.size + 1) c) := F1.out.below hb F1.out.lt
  have FB : Hid (Below w.heap.size w v_4) := FB.out.trans (hb.mono FB.out.size)
  clear hb
  obtain ⟨x0_0, x0_1, x0_2, x0_3, x0_4, x0_5, x0_6, x0_7, x0_8, x0_9, x0_10, x0_11⟩ := F0.out
  obtain ⟨x1_0, x1_1, x1_2, y1_0, y1_1, y1_2⟩ := F1.out
  obtain rfl := Hs.at6_of HO.out hr
  clear hr
  try dsimp only
  refine hK.out _ _ (by (try dsimp only); first | exact ⟨x0_0, x0_1, x0_2, x0_3, x0_4, x0_5, x0_6, x0_7, x0_8, x0_9, x0_10, x0_11, x1_0, x1_1, x1_2⟩ | go_keep) (fun hHeld => ?_)
  clear hK K
  try simp only [Act.put, List.getElem_toArray, List.getElem_cons_succ, List.getElem_cons_zero, List.setIfInBounds_toArray, List.set_cons_zero, List.set_cons_succ]
  refine tkz 12 rfl ?_
  refine wpAnyH_done (by kernel_rfl) ?_ _
  go_wp2
  go_ret
  exact ⟨rfl, FB.out⟩
end Go.Proofs.Ytpfihpplpefikaa
