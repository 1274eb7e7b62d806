/-
  The program's fresh shaft, and where a car stands.
-/
import Derived.Test.YtgedakdbcjppnaaHouseG
import Derived.Test.YtgedakdbcjppnaaCarJ
import Derived.Test.YtgedakdbcjppnaaCarV
import Derived.Test.YtgedakdbcjppnaaFnd
namespace Go.Proofs.Ytgedakdbcjppnaa
open Go.RowKit Pl
set_option linter.unusedSimpArgs false
set_option linter.unusedVariables false

theorem Hs.near_in (h : Hs) (c : Cs) (f : Int) : inB (c.pos - h.level f) (-h.lv) h.lv = Hs.near h c f := by
  unfold Hs.near inB absI
  by_cases e : c.pos - h.level f < 0
  · rw [if_pos e]; refine Bool.eq_iff_iff.2 ?_; simp; omega
  · rw [if_neg e]; refine Bool.eq_iff_iff.2 ?_; simp; omega
theorem Hs.near_way (h : Hs) (c : Cs) (f : Int) : inB (h.level f - c.pos) (-h.lv) h.lv = Hs.near h c f := by
  unfold Hs.near inB absI
  by_cases e : c.pos - h.level f < 0
  · rw [if_pos e]; refine Bool.eq_iff_iff.2 ?_; simp; omega
  · rw [if_neg e]; refine Bool.eq_iff_iff.2 ?_; simp; omega
set_option maxHeartbeats 4000000 in
theorem implFreshShaft_no (h : Hs) (hf : h.fault ≠ 0) (w : World) :
    Calls Try.prog 16 #[.agg #[.int .i64 h.fl, .int .i64 h.gp, .int .i64 h.ln, .int .i64 h.rf, .int .i64 h.sp, .int .i64 h.pu, .int .i64 h.br, .int .i64 h.dr, .int .i64 h.lv, .int .i64 h.dO, .int .i64 h.ld, .int .i64 h.qu]] w (isShaft w h.fault ⟨⟨0, 0, 0⟩, ⟨0, 0, 0⟩⟩) := by
  have hn : (h.fault != 0) = true := by simpa using hf
  clear hf
  have F0 : Hid (HAt ((w.alloc (.cells #[.int .i64 h.fl, .int .i64 h.gp, .int .i64 h.ln, .int .i64 h.rf, .int .i64 h.sp, .int .i64 h.pu, .int .i64 h.br, .int .i64 h.dr, .int .i64 h.lv, .int .i64 h.dO, .int .i64 h.ld, .int .i64 h.qu] 24)).alloc (.cells #[.int .i64 0, .int .i64 0, .int .i64 0, .int .i64 0, .int .i64 0, .int .i64 0, .int .i64 0] 45)) w.heap.size h) := (HAt.at_ w h _ _ (by simp)).alloc _
  have F1 : Hid (R7 ((w.alloc (.cells #[.int .i64 h.fl, .int .i64 h.gp, .int .i64 h.ln, .int .i64 h.rf, .int .i64 h.sp, .int .i64 h.pu, .int .i64 h.br, .int .i64 h.dr, .int .i64 h.lv, .int .i64 h.dO, .int .i64 h.ld, .int .i64 h.qu] 24)).alloc (.cells #[.int .i64 0, .int .i64 0, .int .i64 0, .int .i64 0, .int .i64 0, .int .i64 0, .int .i64 0] 45)) (w.heap.size + 1)) := R7.at_ (w.alloc (.cells #[.int .i64 h.fl, .int .i64 h.gp, .int .i64 h.ln, .int .i64 h.rf, .int .i64 h.sp, .int .i64 h.pu, .int .i64 h.br, .int .i64 h.dr, .int .i64 h.lv, .int .i64 h.dO, .int .i64 h.ld, .int .i64 h.qu] 24)) _ _ (by simp)
  have FB : Hid (Below w.heap.size w ((w.alloc (.cells #[.int .i64 h.fl, .int .i64 h.gp, .int .i64 h.ln, .int .i64 h.rf, .int .i64 h.sp, .int .i64 h.pu, .int .i64 h.br, .int .i64 h.dr, .int .i64 h.lv, .int .i64 h.dO, .int .i64 h.ld, .int .i64 h.qu] 24)).alloc (.cells #[.int .i64 0, .int .i64 0, .int .i64 0, .int .i64 0, .int .i64 0, .int .i64 0, .int .i64 0] 45))) := (((Below.refl _ _).alloc (Nat.le_refl _) _).alloc (by simp <;> omega) _)
  go_enter Try.func16, Try.ntmps16
  go_wp2_with (go_at_call 14; refine (implFault_any h _).mono ?_; rintro e w1 ⟨rfl, hb⟩; have F0 : Hid (HAt w1 w.heap.size h) := F0.out.below hb F0.out.lt; have F1 : Hid (R7 w1 (w.heap.size + 1)) := F1.out.below hb F1.out.lt; have FB : Hid (Below w.heap.size w w1) := FB.out.trans (hb.mono FB.out.size); obtain ⟨x0_0, x0_1, x0_2, x0_3, x0_4, x0_5, x0_6, x0_7, x0_8, x0_9, x0_10, x0_11⟩ := F0.out; obtain ⟨x1_0, x1_1, x1_2, x1_3, x1_4, x1_5, x1_6, y1_0, y1_1, y1_2, y1_3, y1_4, y1_5, y1_6⟩ := F1.out; clear hb)
  change bodyPost _ _ _ _ _ (put7 w1 (w.heap.size + 1) h.fault (⟨⟨0, 0, 0⟩, ⟨0, 0, 0⟩⟩ : Sh))
  obtain ⟨Wf, hWf⟩ : ∃ Wf, put7 w1 (w.heap.size + 1) h.fault (⟨⟨0, 0, 0⟩, ⟨0, 0, 0⟩⟩ : Sh) = Wf := ⟨_, rfl⟩
  have HRf : V7 Wf (w.heap.size + 1) h.fault (⟨⟨0, 0, 0⟩, ⟨0, 0, 0⟩⟩ : Sh) := hWf ▸ F1.out.put _ _
  have HBf : Below w.heap.size w Wf := hWf ▸ below_put7 FB.out (by omega) _ _
  rw [hWf]
  clear hWf
  obtain ⟨d0, d1, d2, d3, d4, d5, d6⟩ := HRf
  dsimp only at d0 d1 d2 d3 d4 d5 d6
  exact bodyPost_ret (v := .agg #[.int .i64 h.fault, .int .i64 0, .int .i64 0, .int .i64 0, .int .i64 0, .int .i64 0, .int .i64 0]) (by simp [results, Try.results16, go_sem, d0, d1, d2, d3, d4, d5, d6]) rfl ⟨rfl, HBf⟩
set_option maxHeartbeats 4000000 in
theorem implFreshShaft_yes (h : Hs) (hf : h.fault = 0) (w : World) :
    Calls Try.prog 16 #[.agg #[.int .i64 h.fl, .int .i64 h.gp, .int .i64 h.ln, .int .i64 h.rf, .int .i64 h.sp, .int .i64 h.pu, .int .i64 h.br, .int .i64 h.dr, .int .i64 h.lv, .int .i64 h.dO, .int .i64 h.ld, .int .i64 h.qu]] w (isShaft w 0 ⟨⟨0, 0, 0⟩, ⟨h.level (h.fl - 1), 0, 0⟩⟩) := by
  have o := Hs.ok_of (Hs.fault_zero hf).1
  have f1 := o.fl1; have f2 := o.fl2
  have z : h.level 0 = 0 := by unfold Hs.level; rw [if_neg (by omega), if_neg (by omega)]; omega
  have e1 : IntKind.i64.wrap (h.fl - 1) = h.fl - 1 := IntWalk.i64_in _ (by omega)
  have HO : Hid h.Ok := o
  clear o
  have F0 : Hid (HAt ((w.alloc (.cells #[.int .i64 h.fl, .int .i64 h.gp, .int .i64 h.ln, .int .i64 h.rf, .int .i64 h.sp, .int .i64 h.pu, .int .i64 h.br, .int .i64 h.dr, .int .i64 h.lv, .int .i64 h.dO, .int .i64 h.ld, .int .i64 h.qu] 24)).alloc (.cells #[.int .i64 0, .int .i64 0, .int .i64 0, .int .i64 0, .int .i64 0, .int .i64 0, .int .i64 0] 45)) w.heap.size h) := (HAt.at_ w h _ _ (by simp)).alloc _
  have F1 : Hid (R7 ((w.alloc (.cells #[.int .i64 h.fl, .int .i64 h.gp, .int .i64 h.ln, .int .i64 h.rf, .int .i64 h.sp, .int .i64 h.pu, .int .i64 h.br, .int .i64 h.dr, .int .i64 h.lv, .int .i64 h.dO, .int .i64 h.ld, .int .i64 h.qu] 24)).alloc (.cells #[.int .i64 0, .int .i64 0, .int .i64 0, .int .i64 0, .int .i64 0, .int .i64 0, .int .i64 0] 45)) (w.heap.size + 1)) := R7.at_ (w.alloc (.cells #[.int .i64 h.fl, .int .i64 h.gp, .int .i64 h.ln, .int .i64 h.rf, .int .i64 h.sp, .int .i64 h.pu, .int .i64 h.br, .int .i64 h.dr, .int .i64 h.lv, .int .i64 h.dO, .int .i64 h.ld, .int .i64 h.qu] 24)) _ _ (by simp)
  have FB : Hid (Below w.heap.size w ((w.alloc (.cells #[.int .i64 h.fl, .int .i64 h.gp, .int .i64 h.ln, .int .i64 h.rf, .int .i64 h.sp, .int .i64 h.pu, .int .i64 h.br, .int .i64 h.dr, .int .i64 h.lv, .int .i64 h.dO, .int .i64 h.ld, .int .i64 h.qu] 24)).alloc (.cells #[.int .i64 0, .int .i64 0, .int .i64 0, .int .i64 0, .int .i64 0, .int .i64 0, .int .i64 0] 45))) := (((Below.refl _ _).alloc (Nat.le_refl _) _).alloc (by simp <;> omega) _)
  go_enter Try.func16, Try.ntmps16
  go_wp2_with (go_at_call 14; refine (implFault_any h _).mono ?_; rw [hf]; rintro e w1 ⟨rfl, hb⟩; have F0 : Hid (HAt w1 w.heap.size h) := F0.out.below hb F0.out.lt; have F1 : Hid (R7 w1 (w.heap.size + 1)) := F1.out.below hb F1.out.lt; have FB : Hid (Below w.heap.size w w1) := FB.out.trans (hb.mono FB.out.size); obtain ⟨x0_0, x0_1, x0_2, x0_3, x0_4, x0_5, x0_6, x0_7, x0_8, x0_9, x0_10, x0_11⟩ := F0.out; obtain ⟨x1_0, x1_1, x1_2, x1_3, x1_4, x1_5, x1_6, y1_0, y1_1, y1_2, y1_3, y1_4, y1_5, y1_6⟩ := F1.out; clear hb)
  have F0 : Hid (HAt w1.drew w.heap.size h) := F0.out.drew
  have F1 : Hid (R7 w1.drew (w.heap.size + 1)) := F1.out.drew
  have FB : Hid (Below w.heap.size w w1.drew) := FB.out.drew
  refine wp_region_held_drew (S := (fun w'' => w''.cell? ⟨w.heap.size, 0, none⟩ = some (.int .i64 h.fl) ∧ w''.cell? ⟨w.heap.size, 1, none⟩ = some (.int .i64 h.gp) ∧ w''.cell? ⟨w.heap.size, 2, none⟩ = some (.int .i64 h.ln) ∧ w''.cell? ⟨w.heap.size, 3, none⟩ = some (.int .i64 h.rf) ∧ w''.cell? ⟨w.heap.size, 4, none⟩ = some (.int .i64 h.sp) ∧ w''.cell? ⟨w.heap.size, 5, none⟩ = some (.int .i64 h.pu) ∧ w''.cell? ⟨w.heap.size, 6, none⟩ = some (.int .i64 h.br) ∧ w''.cell? ⟨w.heap.size, 7, none⟩ = some (.int .i64 h.dr) ∧ w''.cell? ⟨w.heap.size, 8, none⟩ = some (.int .i64 h.lv) ∧ w''.cell? ⟨w.heap.size, 9, none⟩ = some (.int .i64 h.dO) ∧ w''.cell? ⟨w.heap.size, 10, none⟩ = some (.int .i64 h.ld) ∧ w''.cell? ⟨w.heap.size, 11, none⟩ = some (.int .i64 h.qu))) (by kernel_rfl) (by (try dsimp only); first | exact ⟨x0_0, x0_1, x0_2, x0_3, x0_4, x0_5, x0_6, x0_7, x0_8, x0_9, x0_10, x0_11⟩ | go_keep) (fun hHeld => ?_)
  refine tkz 0 rfl ?_
  refine tkz 3 rfl ?_
  refine tkz 4 rfl ?_
  refine tkz 5 rfl ?_
  refine tkz 6 rfl ?_
  refine wpAnyH_ready (rs := [1]) (by kernel_rfl) (by simp) ?_
  refine AllReadyH.cons rfl (fun K hK => ?_) AllReadyH.nil
  go_simp
  refine (placeOf_any h HO.out _ (by omega) (by omega) _).mono ?_
  rw [z]
  rintro e w2 ⟨rfl, hb⟩
  have F0 : Hid (HAt w2 w.heap.size h) := F0.out.below hb F0.out.lt
  have F1 : Hid (R7 w2 (w.heap.size + 1)) := F1.out.below hb F1.out.lt
  have FB : Hid (Below w.heap.size w w2) := FB.out.trans (hb.mono FB.out.size)
  obtain ⟨x0_0, x0_1, x0_2, x0_3, x0_4, x0_5, x0_6, x0_7, x0_8, x0_9, x0_10, x0_11⟩ := F0.out
  obtain ⟨x1_0, x1_1, x1_2, x1_3, x1_4, x1_5, x1_6, y1_0, y1_1, y1_2, y1_3, y1_4, y1_5, y1_6⟩ := F1.out
  clear hb
  try go_wp2_with fail
  refine hK.out _ _ (by (try dsimp only); go_keep) (fun hHeld => ?_)
  clear hK K
  try simp only [Act.put, List.getElem_toArray, List.getElem_cons_succ, List.getElem_cons_zero, List.setIfInBounds_toArray, List.set_cons_zero, List.set_cons_succ]
  refine tkz 2 rfl ?_
  refine wpAnyH_ready (rs := [7]) (by kernel_rfl) (by simp) ?_
  refine AllReadyH.cons rfl (fun K hK => ?_) AllReadyH.nil
  go_simp
  refine (placeOf_any h HO.out _ (by omega) (by omega) _).mono ?_
  rintro e w3 ⟨rfl, hb⟩
  have F0 : Hid (HAt w3 w.heap.size h) := F0.out.below hb F0.out.lt
  have F1 : Hid (R7 w3 (w.heap.size + 1)) := F1.out.below hb F1.out.lt
  have FB : Hid (Below w.heap.size w w3) := FB.out.trans (hb.mono FB.out.size)
  obtain ⟨x0_0, x0_1, x0_2, x0_3, x0_4, x0_5, x0_6, x0_7, x0_8, x0_9, x0_10, x0_11⟩ := F0.out
  obtain ⟨x1_0, x1_1, x1_2, x1_3, x1_4, x1_5, x1_6, y1_0, y1_1, y1_2, y1_3, y1_4, y1_5, y1_6⟩ := F1.out
  clear hb
  try go_wp2_with fail
  refine hK.out _ _ (by (try dsimp only); go_keep) (fun hHeld => ?_)
  clear hK K
  try simp only [Act.put, List.getElem_toArray, List.getElem_cons_succ, List.getElem_cons_zero, List.setIfInBounds_toArray, List.set_cons_zero, List.set_cons_succ]
  refine tkz 8 rfl ?_
  refine tkz 9 rfl ?_
  refine tkz 10 rfl ?_
  refine wpAnyH_ready (rs := [11]) (by kernel_rfl) (by simp) ?_
  refine AllReadyH.cons rfl (fun K hK => ?_) AllReadyH.nil
  go_simp
  refine hK.out _ _ (by (try dsimp only); first | ((repeat' apply And.intro) <;> ((repeat rw [cellS (by simp <;> omega)]); assumption)) | go_keep) (fun hHeld => ?_)
  clear hK K
  try simp only [Act.put, List.getElem_toArray, List.getElem_cons_succ, List.getElem_cons_zero, List.setIfInBounds_toArray, List.set_cons_zero, List.set_cons_succ]
  refine wpAnyH_done (by kernel_rfl) ?_ _
  go_wp2_with fail
  change bodyPost _ _ _ _ _ (put7 w3 (w.heap.size + 1) 0 (⟨⟨0, 0, 0⟩, ⟨h.level (h.fl - 1), 0, 0⟩⟩ : Sh))
  obtain ⟨Wf, hWf⟩ : ∃ Wf, put7 w3 (w.heap.size + 1) 0 (⟨⟨0, 0, 0⟩, ⟨h.level (h.fl - 1), 0, 0⟩⟩ : Sh) = Wf := ⟨_, rfl⟩
  have HRf : V7 Wf (w.heap.size + 1) 0 (⟨⟨0, 0, 0⟩, ⟨h.level (h.fl - 1), 0, 0⟩⟩ : Sh) := hWf ▸ F1.out.put _ _
  have HBf : Below w.heap.size w Wf := hWf ▸ below_put7 FB.out (by omega) _ _
  rw [hWf]
  clear hWf
  obtain ⟨d0, d1, d2, d3, d4, d5, d6⟩ := HRf
  dsimp only at d0 d1 d2 d3 d4 d5 d6
  exact bodyPost_ret (v := .agg #[.int .i64 0, .int .i64 0, .int .i64 0, .int .i64 0, .int .i64 (h.level (h.fl - 1)), .int .i64 0, .int .i64 0]) (by simp [results, Try.results16, go_sem, d0, d1, d2, d3, d4, d5, d6]) rfl ⟨rfl, HBf⟩
end Go.Proofs.Ytgedakdbcjppnaa
