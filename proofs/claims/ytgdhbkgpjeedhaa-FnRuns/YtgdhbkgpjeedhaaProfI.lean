/-
  The program's push for a path, and its command for a floor.
-/
import Derived.Test.YtgdhbkgpjeedhaaProf
import Derived.Test.YtgdhbkgpjeedhaaFnd
import Derived.Test.YtgdhbkgpjeedhaaCellsX
import Derived.Test.YtgdhbkgpjeedhaaCarL
import Derived.Test.YtgdhbkgpjeedhaaHouseG
namespace Go.Proofs.Ytgdhbkgpjeedhaa
open Go.RowKit Pl
set_option linter.unusedSimpArgs false
set_option linter.unusedVariables false

theorem Hs.upP_cl (h : Hs) (v p : Int) (p1 : 0 ≤ h.pu) : cl (min h.sp (speedP p h.pu) - v) (-h.pu) h.pu = Hs.upP h v p := by
  unfold Hs.upP Hs.want cl clip
  (repeat' split) <;> omega
theorem fieldR1 (c v : Int) (w : World) : (Instr.field 31 (.agg #[.int .i64 c, .int .i64 v]) 1).run Try.prog w = .ok (.int .i64 v) w := by kernel_rfl
set_option maxHeartbeats 4000000 in
theorem upward_any (h : Hs) (o : h.Ok) (v p : Int) (v1 : -500 ≤ v) (v2 : v ≤ 500) (q1 : 0 ≤ p) (q2 : p ≤ 1000000000) (b : Nat) (w : World) (hH : HAt w b h) :
    Calls Try.prog 67 #[.int .i64 v, .int .i64 p, .pointer (some ⟨b, 0, none⟩)] w fun e w' => e = .returned (.int .i64 (Hs.upP h v p)) ∧ Below w.heap.size w w' := by
  have s1 := o.sp1; have s2 := o.sp2; have p1 := o.pu1; have p2 := o.pu2
  have sb := speedP_bd p h.pu
  obtain ⟨m, hm⟩ : ∃ m, min h.sp (speedP p h.pu) = m := ⟨_, rfl⟩
  have m1 : 0 ≤ m ∧ m ≤ 500 := by omega
  have em : (if speedP p h.pu < h.sp then speedP p h.pu else h.sp) = m := by split <;> omega
  have e1 : IntKind.i64.wrap (m - v) = m - v := IntWalk.i64_in _ (by omega)
  have e2 : IntKind.i64.wrap (-h.pu) = -h.pu := IntWalk.i64_in _ (by omega)
  have HE : Hid (cl (m - v) (-h.pu) h.pu = Hs.upP h v p) := by rw [← hm]; exact Hs.upP_cl h v p (by omega)
  have fr := fieldR1
  clear o hm
  have F0 : Hid (HAt w b h) := hH
  have FB : Hid (Below w.heap.size w w) := Below.refl _ _
  clear hH
  go_enter Try.func67, Try.ntmps67
  go_wp2_with fail
  have F0 : Hid (HAt w.drew b h) := F0.out.below (Below.refl _ _).drew F0.out.lt
  have FB : Hid (Below w.heap.size w w.drew) := FB.out.drew
  obtain ⟨x0_0, x0_1, x0_2, x0_3, x0_4, x0_5, x0_6, x0_7, x0_8, x0_9, x0_10, x0_11⟩ := F0.out
  refine wp_region_held_drew (S := (fun w'' => w''.cell? ⟨b, 0, none⟩ = some (.int .i64 h.fl) ∧ w''.cell? ⟨b, 1, none⟩ = some (.int .i64 h.gp) ∧ w''.cell? ⟨b, 2, none⟩ = some (.int .i64 h.ln) ∧ w''.cell? ⟨b, 3, none⟩ = some (.int .i64 h.rf) ∧ w''.cell? ⟨b, 4, none⟩ = some (.int .i64 h.sp) ∧ w''.cell? ⟨b, 5, none⟩ = some (.int .i64 h.pu) ∧ w''.cell? ⟨b, 6, none⟩ = some (.int .i64 h.br) ∧ w''.cell? ⟨b, 7, none⟩ = some (.int .i64 h.dr) ∧ w''.cell? ⟨b, 8, none⟩ = some (.int .i64 h.lv) ∧ w''.cell? ⟨b, 9, none⟩ = some (.int .i64 h.dO) ∧ w''.cell? ⟨b, 10, none⟩ = some (.int .i64 h.ld) ∧ w''.cell? ⟨b, 11, none⟩ = some (.int .i64 h.qu))) (by kernel_rfl) (by (try dsimp only); first | exact ⟨x0_0, x0_1, x0_2, x0_3, x0_4, x0_5, x0_6, x0_7, x0_8, x0_9, x0_10, x0_11⟩ | go_keep) (fun hHeld => ?_)
  obtain ⟨v_1, hw1⟩ : ∃ v_1, v_1 = w.drew := ⟨_, rfl⟩
  have F0 : Hid (HAt v_1 b h) := by rw [hw1]; exact F0.out
  have FB : Hid (Below w.heap.size w v_1) := by rw [hw1]; exact FB.out
  rw [← hw1] at hHeld ⊢
  clear hw1
  obtain ⟨x0_0, x0_1, x0_2, x0_3, x0_4, x0_5, x0_6, x0_7, x0_8, x0_9, x0_10, x0_11⟩ := F0.out
  refine tkz 0 rfl ?_
  refine tkz 1 rfl ?_
  refine tkz 2 rfl ?_
  refine tkz 3 rfl ?_
  refine tkz 4 rfl ?_
  refine wpAnyH_ready (rs := [5]) (by kernel_rfl) (by simp) ?_
  refine (AllReadyH.cons rfl (fun K hK => ?_) AllReadyH.nil)
  go_simp
  refine (implSpeedFor_in _ _ (by omega) (by omega) (by omega) (by omega) _).mono ?_
  rintro e v_2 ⟨r, hbst, rfl, hg, hb⟩
  have F0 : Hid (HAt v_2 b h) := F0.out.below hb F0.out.lt
  have FB : Hid (Below w.heap.size w v_2) := FB.out.trans (hb.mono FB.out.size)
  clear hb
  obtain ⟨x0_0, x0_1, x0_2, x0_3, x0_4, x0_5, x0_6, x0_7, x0_8, x0_9, x0_10, x0_11⟩ := F0.out
  obtain rfl := speedP_of hbst
  clear hbst hg
  try dsimp only
  refine hK.out _ _ (by (try dsimp only); first | exact ⟨x0_0, x0_1, x0_2, x0_3, x0_4, x0_5, x0_6, x0_7, x0_8, x0_9, x0_10, x0_11⟩ | go_keep) (fun hHeld => ?_)
  clear hK K
  try simp only [Act.put, List.getElem_toArray, List.getElem_cons_succ, List.getElem_cons_zero, List.setIfInBounds_toArray, List.set_cons_zero, List.set_cons_succ]
  refine tkz 6 rfl ?_
  refine wpAnyH_ready (rs := [7]) (by kernel_rfl) (by simp) ?_
  refine (AllReadyH.cons rfl (fun K hK => ?_) AllReadyH.nil)
  go_simp
  refine hK.out _ _ (by (try dsimp only); first | exact ⟨x0_0, x0_1, x0_2, x0_3, x0_4, x0_5, x0_6, x0_7, x0_8, x0_9, x0_10, x0_11⟩ | go_keep) (fun hHeld => ?_)
  clear hK K
  try simp only [Act.put, List.getElem_toArray, List.getElem_cons_succ, List.getElem_cons_zero, List.setIfInBounds_toArray, List.set_cons_zero, List.set_cons_succ]
  refine tkz 8 rfl ?_
  refine wpAnyH_done (by kernel_rfl) ?_ _
  go_wp2_with (go_at_call 66; refine (bounded_any _ _ _ _).mono ?_; rintro e w' ⟨rfl, hw⟩; obtain rfl := hw.symm; clear hw)
  go_ret
  exact ⟨ret_int HE.out, FB.out⟩
/-- The push for a path, up or down. -/
def Hs.pushP (h : Hs) (v d : Int) : Int := if d < 0 then -(Hs.upP h (-v) (-d)) else Hs.upP h v d
set_option maxHeartbeats 2000000 in
theorem pushFor_any (h : Hs) (o : h.Ok) (v d : Int) (v1 : -500 ≤ v) (v2 : v ≤ 500) (q1 : -1000000000 ≤ d) (q2 : d ≤ 1000000000) (w : World) :
    Calls Try.prog 55 #[.agg #[.int .i64 h.fl, .int .i64 h.gp, .int .i64 h.ln, .int .i64 h.rf, .int .i64 h.sp, .int .i64 h.pu, .int .i64 h.br, .int .i64 h.dr, .int .i64 h.lv, .int .i64 h.dO, .int .i64 h.ld, .int .i64 h.qu], .int .i64 v, .int .i64 d] w fun e w' => e = .returned (.int .i64 (Hs.pushP h v d)) ∧ Below w.heap.size w w' := by
  have p1 := o.pu1; have p2 := o.pu2; have p3 := o.sp2
  have HO : Hid h.Ok := o
  unfold Hs.pushP
  have F0 : Hid (HAt (w.alloc (.cells #[.int .i64 h.fl, .int .i64 h.gp, .int .i64 h.ln, .int .i64 h.rf, .int .i64 h.sp, .int .i64 h.pu, .int .i64 h.br, .int .i64 h.dr, .int .i64 h.lv, .int .i64 h.dO, .int .i64 h.ld, .int .i64 h.qu] 25)) w.heap.size h) := HAt.at_ w h _ _ (by simp)
  have FB : Hid (Below w.heap.size w (w.alloc (.cells #[.int .i64 h.fl, .int .i64 h.gp, .int .i64 h.ln, .int .i64 h.rf, .int .i64 h.sp, .int .i64 h.pu, .int .i64 h.br, .int .i64 h.dr, .int .i64 h.lv, .int .i64 h.dO, .int .i64 h.ld, .int .i64 h.qu] 25))) := ((Below.refl _ _).alloc (Nat.le_refl _) _)
  by_cases k : d < 0
  · rw [if_pos k]
    obtain ⟨u, hu⟩ : ∃ u, Hs.upP h (-v) (-d) = u := ⟨_, rfl⟩
    have ub := Hs.upP_bd o (-v) (-d)
    rw [hu] at ub ⊢
    have e1 : IntKind.i64.wrap (-u) = -u := IntWalk.i64_in _ (by omega)
    have e2 : IntKind.i64.wrap (-v) = -v := IntWalk.i64_in _ (by omega)
    have e3 : IntKind.i64.wrap (-d) = -d := IntWalk.i64_in _ (by omega)
    clear o
    go_enter Try.func55, Try.ntmps55
    go_wp2_with (go_at_call 67; refine (upward_any h HO.out _ _ (by omega) (by omega) (by omega) (by omega) _ _ F0.out).mono ?_; rw [hu]; rintro e w1 ⟨rfl, hb⟩; have F0 : Hid (HAt w1 w.heap.size h) := F0.out.below hb F0.out.lt; have FB : Hid (Below w.heap.size w w1) := FB.out.trans (hb.mono FB.out.size); obtain ⟨x0_0, x0_1, x0_2, x0_3, x0_4, x0_5, x0_6, x0_7, x0_8, x0_9, x0_10, x0_11⟩ := F0.out; clear hb)
    go_ret
    exact ⟨rfl, FB.out⟩
  · rw [if_neg k]
    clear o
    go_enter Try.func55, Try.ntmps55
    go_wp2_with (go_at_call 67; refine (upward_any h HO.out _ _ (by omega) (by omega) (by omega) (by omega) _ _ F0.out).mono ?_; rintro e w1 ⟨rfl, hb⟩; have F0 : Hid (HAt w1 w.heap.size h) := F0.out.below hb F0.out.lt; have FB : Hid (Below w.heap.size w w1) := FB.out.trans (hb.mono FB.out.size); obtain ⟨x0_0, x0_1, x0_2, x0_3, x0_4, x0_5, x0_6, x0_7, x0_8, x0_9, x0_10, x0_11⟩ := F0.out; clear hb)
    go_ret
    exact ⟨rfl, FB.out⟩
theorem forC_brk {h : Hs} {c : Cs} {f : Int} (hn : Hs.near h c f = true) (hv : inB c.vel (-h.br) h.br = true) : Hs.forC h c f = ⟨0, true, false⟩ := by
  have a : absI (c.pos - h.level f) ≤ h.lv := of_decide_eq_true hn
  have b := inB_iff.1 hv
  unfold Hs.forC
  refine if_pos ⟨?_, ?_⟩
  · unfold absI at *; split at a <;> split <;> omega
  · unfold absI; split <;> omega
theorem forC_go {h : Hs} {c : Cs} {f : Int} (hn : Hs.near h c f = false ∨ inB c.vel (-h.br) h.br = false) : Hs.forC h c f = ⟨Hs.pushP h c.vel (h.level f - c.pos), false, false⟩ := by
  have no : ¬ (absI (h.level f - c.pos) ≤ h.lv ∧ absI c.vel ≤ h.br) := by
    rintro ⟨a, b⟩
    rcases hn with e | e
    · have : ¬ absI (c.pos - h.level f) ≤ h.lv := of_decide_eq_false e
      apply this; unfold absI at *; split at a <;> split <;> omega
    · have : inB c.vel (-h.br) h.br = true := inB_yes (by unfold absI at b; split at b <;> omega) (by unfold absI at b; split at b <;> omega)
      rw [e] at this; exact Bool.noConfusion this
  unfold Hs.forC Hs.pushP
  rw [if_neg no]
  split <;> rfl
theorem pushP_bd {h : Hs} (o : h.Ok) (v d : Int) : -h.pu ≤ Hs.pushP h v d ∧ Hs.pushP h v d ≤ h.pu := by
  have a := Hs.upP_bd o (-v) (-d)
  have b := Hs.upP_bd o v d
  unfold Hs.pushP; split <;> omega
set_option maxRecDepth 20000 in
set_option maxHeartbeats 8000000 in
theorem commandTo_any (h : Hs) (o : h.Ok) (c : Cs) (f : Int) (f1 : -1 ≤ f) (f2 : f ≤ h.fl) (p1 : -100000000 ≤ c.pos) (p2 : c.pos ≤ 100000000) (v1 : -500 ≤ c.vel) (v2 : c.vel ≤ 500) (w : World) :
    Calls Try.prog 36 #[.agg #[.int .i64 h.fl, .int .i64 h.gp, .int .i64 h.ln, .int .i64 h.rf, .int .i64 h.sp, .int .i64 h.pu, .int .i64 h.br, .int .i64 h.dr, .int .i64 h.lv, .int .i64 h.dO, .int .i64 h.ld, .int .i64 h.qu], .agg #[.int .i64 c.pos, .int .i64 c.vel, .int .i64 c.door], .int .i64 f] w (isCmd w (Hs.forC h c f)) := by
  have l2 := o.fl2
  obtain ⟨b1, b2⟩ := o.level_bd f (by omega) (by omega)
  have r1 := o.br1; have r2 := o.br2; have r3 := o.pu1
  have e1 : IntKind.i64.wrap (-h.br) = -h.br := IntWalk.i64_in _ (by omega)
  have HO : Hid h.Ok := o
  clear o
  have F0 : Hid (HAt (((w.alloc (.cells #[.int .i64 h.fl, .int .i64 h.gp, .int .i64 h.ln, .int .i64 h.rf, .int .i64 h.sp, .int .i64 h.pu, .int .i64 h.br, .int .i64 h.dr, .int .i64 h.lv, .int .i64 h.dO, .int .i64 h.ld, .int .i64 h.qu] 25)).alloc (.cells #[.int .i64 c.pos, .int .i64 c.vel, .int .i64 c.door] 27)).alloc (.cells #[.int .i64 0, .bool false, .bool false] 43)) w.heap.size h) := ((HAt.at_ w h _ _ (by simp)).alloc _).alloc _
  have F1 : Hid (CW (((w.alloc (.cells #[.int .i64 h.fl, .int .i64 h.gp, .int .i64 h.ln, .int .i64 h.rf, .int .i64 h.sp, .int .i64 h.pu, .int .i64 h.br, .int .i64 h.dr, .int .i64 h.lv, .int .i64 h.dO, .int .i64 h.ld, .int .i64 h.qu] 25)).alloc (.cells #[.int .i64 c.pos, .int .i64 c.vel, .int .i64 c.door] 27)).alloc (.cells #[.int .i64 0, .bool false, .bool false] 43)) (w.heap.size + 1) c) := (CW.at_ _ c _ _ (by simp)).alloc _
  have F2 : Hid (RCmd (((w.alloc (.cells #[.int .i64 h.fl, .int .i64 h.gp, .int .i64 h.ln, .int .i64 h.rf, .int .i64 h.sp, .int .i64 h.pu, .int .i64 h.br, .int .i64 h.dr, .int .i64 h.lv, .int .i64 h.dO, .int .i64 h.ld, .int .i64 h.qu] 25)).alloc (.cells #[.int .i64 c.pos, .int .i64 c.vel, .int .i64 c.door] 27)).alloc (.cells #[.int .i64 0, .bool false, .bool false] 43)) (w.heap.size + 2)) := RCmd.at_ _ _ _ (by simp)
  have FB : Hid (Below w.heap.size w (((w.alloc (.cells #[.int .i64 h.fl, .int .i64 h.gp, .int .i64 h.ln, .int .i64 h.rf, .int .i64 h.sp, .int .i64 h.pu, .int .i64 h.br, .int .i64 h.dr, .int .i64 h.lv, .int .i64 h.dO, .int .i64 h.ld, .int .i64 h.qu] 25)).alloc (.cells #[.int .i64 c.pos, .int .i64 c.vel, .int .i64 c.door] 27)).alloc (.cells #[.int .i64 0, .bool false, .bool false] 43))) := ((((Below.refl _ _).alloc (Nat.le_refl _) _).alloc (by simp) _).alloc (by simp; omega) _)
  cases hn : Hs.near h c f with
  | false =>
    rw [forC_go (Or.inl hn)]
    go_enter Try.func36, Try.ntmps36
    go_wp2_with (go_at_call 50; refine (isLevel_any h HO.out c f (by omega) (by omega) (by omega) (by omega) _).mono ?_; rw [hn]; rintro e w1 ⟨rfl, hb⟩; have F0 : Hid (HAt w1 w.heap.size h) := F0.out.below hb F0.out.lt; have F1 : Hid (CW w1 (w.heap.size + 1) c) := F1.out.below hb F1.out.lt; have F2 : Hid (RCmd w1 (w.heap.size + 2)) := F2.out.below hb F2.out.lt; have FB : Hid (Below w.heap.size w w1) := FB.out.trans (hb.mono FB.out.size); clear hb; obtain ⟨x0_0, x0_1, x0_2, x0_3, x0_4, x0_5, x0_6, x0_7, x0_8, x0_9, x0_10, x0_11⟩ := F0.out; obtain ⟨x1_0, x1_1, x1_2, y1_0, y1_1, y1_2⟩ := F1.out; obtain ⟨x2_0, x2_1, x2_2, y2_0, y2_1, y2_2⟩ := F2.out)
    clear x0_0 x0_1 x0_2 x0_3 x0_4 x0_5 x0_6 x0_7 x0_8 x0_9 x0_10 x0_11 x1_0 x1_1 x1_2 y1_0 y1_1 y1_2 x2_0 x2_1 x2_2 y2_0 y2_1 y2_2
    have F0 : Hid (HAt w1.drew w.heap.size h) := F0.out.below (Below.refl _ _).drew F0.out.lt
    have F1 : Hid (CW w1.drew (w.heap.size + 1) c) := F1.out.below (Below.refl _ _).drew F1.out.lt
    have F2 : Hid (RCmd w1.drew (w.heap.size + 2)) := F2.out.below (Below.refl _ _).drew F2.out.lt
    have FB : Hid (Below w.heap.size w w1.drew) := FB.out.drew
    obtain ⟨x0_0, x0_1, x0_2, x0_3, x0_4, x0_5, x0_6, x0_7, x0_8, x0_9, x0_10, x0_11⟩ := F0.out
    obtain ⟨x1_0, x1_1, x1_2, y1_0, y1_1, y1_2⟩ := F1.out
    refine wp_region_held_drew (S := (fun w'' => w''.cell? ⟨w.heap.size, 0, none⟩ = some (.int .i64 h.fl) ∧ w''.cell? ⟨w.heap.size, 1, none⟩ = some (.int .i64 h.gp) ∧ w''.cell? ⟨w.heap.size, 2, none⟩ = some (.int .i64 h.ln) ∧ w''.cell? ⟨w.heap.size, 3, none⟩ = some (.int .i64 h.rf) ∧ w''.cell? ⟨w.heap.size, 4, none⟩ = some (.int .i64 h.sp) ∧ w''.cell? ⟨w.heap.size, 5, none⟩ = some (.int .i64 h.pu) ∧ w''.cell? ⟨w.heap.size, 6, none⟩ = some (.int .i64 h.br) ∧ w''.cell? ⟨w.heap.size, 7, none⟩ = some (.int .i64 h.dr) ∧ w''.cell? ⟨w.heap.size, 8, none⟩ = some (.int .i64 h.lv) ∧ w''.cell? ⟨w.heap.size, 9, none⟩ = some (.int .i64 h.dO) ∧ w''.cell? ⟨w.heap.size, 10, none⟩ = some (.int .i64 h.ld) ∧ w''.cell? ⟨w.heap.size, 11, none⟩ = some (.int .i64 h.qu) ∧ w''.cell? ⟨(w.heap.size + 1), 0, none⟩ = some (.int .i64 c.pos) ∧ w''.cell? ⟨(w.heap.size + 1), 1, none⟩ = some (.int .i64 c.vel) ∧ w''.cell? ⟨(w.heap.size + 1), 2, none⟩ = some (.int .i64 c.door))) (by kernel_rfl) (by (try dsimp only); first | exact ⟨x0_0, x0_1, x0_2, x0_3, x0_4, x0_5, x0_6, x0_7, x0_8, x0_9, x0_10, x0_11, x1_0, x1_1, x1_2⟩ | go_keep) (fun hHeld => ?_)
    obtain ⟨v_3, hw1⟩ : ∃ v_3, v_3 = w1.drew := ⟨_, rfl⟩
    have F0 : Hid (HAt v_3 w.heap.size h) := by rw [hw1]; exact F0.out
    have F1 : Hid (CW v_3 (w.heap.size + 1) c) := by rw [hw1]; exact F1.out
    have F2 : Hid (RCmd v_3 (w.heap.size + 2)) := by rw [hw1]; exact F2.out
    have FB : Hid (Below w.heap.size w v_3) := by rw [hw1]; exact FB.out
    rw [← hw1] at hHeld ⊢
    clear hw1
    obtain ⟨x0_0, x0_1, x0_2, x0_3, x0_4, x0_5, x0_6, x0_7, x0_8, x0_9, x0_10, x0_11⟩ := F0.out
    obtain ⟨x1_0, x1_1, x1_2, y1_0, y1_1, y1_2⟩ := F1.out
    refine tkz 0 rfl ?_
    refine tkz 1 rfl ?_
    refine tkz 2 rfl ?_
    refine tkz 3 rfl ?_
    refine tkz 4 rfl ?_
    refine tkz 5 rfl ?_
    refine wpAnyH_ready (rs := [6]) (by kernel_rfl) (by simp) ?_
    refine (AllReadyH.cons rfl (fun K hK => ?_) AllReadyH.nil)
    go_simp
    refine (wayTo_any h HO.out c f (by omega) (by omega) (by omega) (by omega) _).mono ?_
    rintro e v_4 ⟨rfl, hb⟩
    have F0 : Hid (HAt v_4 w.heap.size h) := F0.out.below hb F0.out.lt
    have F1 : Hid (CW v_4 (w.heap.size + 1) c) := F1.out.below hb F1.out.lt
    have F2 : Hid (RCmd v_4 (w.heap.size + 2)) := F2.out.below hb F2.out.lt
    have FB : Hid (Below w.heap.size w v_4) := FB.out.trans (hb.mono FB.out.size)
    clear hb
    obtain ⟨x0_0, x0_1, x0_2, x0_3, x0_4, x0_5, x0_6, x0_7, x0_8, x0_9, x0_10, x0_11⟩ := F0.out
    obtain ⟨x1_0, x1_1, x1_2, y1_0, y1_1, y1_2⟩ := F1.out
    try dsimp only
    refine hK.out _ _ (by (try dsimp only); first | exact ⟨x0_0, x0_1, x0_2, x0_3, x0_4, x0_5, x0_6, x0_7, x0_8, x0_9, x0_10, x0_11, x1_0, x1_1, x1_2⟩ | go_keep) (fun hHeld => ?_)
    clear hK K
    try simp only [Act.put, List.getElem_toArray, List.getElem_cons_succ, List.getElem_cons_zero, List.setIfInBounds_toArray, List.set_cons_zero, List.set_cons_succ]
    refine wpAnyH_ready (rs := [7]) (by kernel_rfl) (by simp) ?_
    refine (AllReadyH.cons rfl (fun K hK => ?_) AllReadyH.nil)
    go_simp
    refine (pushFor_any h HO.out _ _ (by omega) (by omega) (by omega) (by omega) _).mono ?_
    rintro e v_5 ⟨rfl, hb⟩
    have F0 : Hid (HAt v_5 w.heap.size h) := F0.out.below hb F0.out.lt
    have F1 : Hid (CW v_5 (w.heap.size + 1) c) := F1.out.below hb F1.out.lt
    have F2 : Hid (RCmd v_5 (w.heap.size + 2)) := F2.out.below hb F2.out.lt
    have FB : Hid (Below w.heap.size w v_5) := FB.out.trans (hb.mono FB.out.size)
    clear hb
    obtain ⟨x0_0, x0_1, x0_2, x0_3, x0_4, x0_5, x0_6, x0_7, x0_8, x0_9, x0_10, x0_11⟩ := F0.out
    obtain ⟨x1_0, x1_1, x1_2, y1_0, y1_1, y1_2⟩ := F1.out
    try dsimp only
    refine hK.out _ _ (by (try dsimp only); first | exact ⟨x0_0, x0_1, x0_2, x0_3, x0_4, x0_5, x0_6, x0_7, x0_8, x0_9, x0_10, x0_11, x1_0, x1_1, x1_2⟩ | go_keep) (fun hHeld => ?_)
    clear hK K
    try simp only [Act.put, List.getElem_toArray, List.getElem_cons_succ, List.getElem_cons_zero, List.setIfInBounds_toArray, List.set_cons_zero, List.set_cons_succ]
    refine tkz 8 rfl ?_
    refine wpAnyH_ready (rs := [9]) (by kernel_rfl) (by simp) ?_
    refine (AllReadyH.cons rfl (fun K hK => ?_) AllReadyH.nil)
    obtain ⟨x2_0, x2_1, x2_2, y2_0, y2_1, y2_2⟩ := F2.out
    go_simp
    obtain ⟨v_6, hw2⟩ : ∃ v_6, v_6 = putCmd v_5 (w.heap.size + 2) (⟨Hs.pushP h c.vel (h.level f - c.pos), false, false⟩ : Cm) := ⟨_, rfl⟩
    change K _ (putCmd v_5 (w.heap.size + 2) (⟨Hs.pushP h c.vel (h.level f - c.pos), false, false⟩ : Cm))
    rw [← hw2]
    clear x2_0 x2_1 x2_2 y2_0 y2_1 y2_2
    have F0 : Hid (HAt v_6 w.heap.size h) := by rw [hw2]; exact F0.out.below (below_putCmd (Below.refl _ _) (Nat.le_refl _) _) (by omega)
    have F1 : Hid (CW v_6 (w.heap.size + 1) c) := by rw [hw2]; exact F1.out.below (below_putCmd (Below.refl _ _) (Nat.le_refl _) _) (by omega)
    have F2 : Hid (VCmd v_6 (w.heap.size + 2) (⟨Hs.pushP h c.vel (h.level f - c.pos), false, false⟩ : Cm)) := by rw [hw2]; exact F2.out.put _
    have FB : Hid (Below w.heap.size w v_6) := by rw [hw2]; exact below_putCmd FB.out (by omega) _
    clear hw2
    obtain ⟨x0_0, x0_1, x0_2, x0_3, x0_4, x0_5, x0_6, x0_7, x0_8, x0_9, x0_10, x0_11⟩ := F0.out
    obtain ⟨x1_0, x1_1, x1_2, y1_0, y1_1, y1_2⟩ := F1.out
    refine hK.out _ _ (by (try dsimp only); first | exact ⟨x0_0, x0_1, x0_2, x0_3, x0_4, x0_5, x0_6, x0_7, x0_8, x0_9, x0_10, x0_11, x1_0, x1_1, x1_2⟩ | go_keep) (fun hHeld => ?_)
    clear hK K
    try simp only [Act.put, List.getElem_toArray, List.getElem_cons_succ, List.getElem_cons_zero, List.setIfInBounds_toArray, List.set_cons_zero, List.set_cons_succ]
    refine wpAnyH_done (by kernel_rfl) ?_ _
    obtain ⟨x2_0, x2_1, x2_2⟩ := F2.out
    try dsimp only at x2_0 x2_1 x2_2
    go_wp2_with fail
    exact bodyPost_ret (v := .agg #[.int .i64 (Hs.pushP h c.vel (h.level f - c.pos)), .bool false, .bool false]) (by simp [results, Try.results36, go_sem, x2_0, x2_1, x2_2]) rfl ⟨rfl, FB.out⟩
  | true =>
    cases hv : inB c.vel (-h.br) h.br with
    | false =>
      rw [forC_go (Or.inr hv)]
      go_enter Try.func36, Try.ntmps36
      go_wp2_with (first | (go_at_call 50; refine (isLevel_any h HO.out c f (by omega) (by omega) (by omega) (by omega) _).mono ?_; rw [hn]; rintro e w1 ⟨rfl, hb⟩; have F0 : Hid (HAt w1 w.heap.size h) := F0.out.below hb F0.out.lt; have F1 : Hid (CW w1 (w.heap.size + 1) c) := F1.out.below hb F1.out.lt; have F2 : Hid (RCmd w1 (w.heap.size + 2)) := F2.out.below hb F2.out.lt; have FB : Hid (Below w.heap.size w w1) := FB.out.trans (hb.mono FB.out.size); clear hb; obtain ⟨x0_0, x0_1, x0_2, x0_3, x0_4, x0_5, x0_6, x0_7, x0_8, x0_9, x0_10, x0_11⟩ := F0.out; obtain ⟨x1_0, x1_1, x1_2, y1_0, y1_1, y1_2⟩ := F1.out; obtain ⟨x2_0, x2_1, x2_2, y2_0, y2_1, y2_2⟩ := F2.out) | (go_at_call 28; refine (isWithin_any _ _ _ _).mono ?_; rintro e w' ⟨rfl, hw⟩; obtain rfl := hw.symm; clear hw))
      clear x0_0 x0_1 x0_2 x0_3 x0_4 x0_5 x0_6 x0_7 x0_8 x0_9 x0_10 x0_11 x1_0 x1_1 x1_2 y1_0 y1_1 y1_2 x2_0 x2_1 x2_2 y2_0 y2_1 y2_2
      have F0 : Hid (HAt w1.drew w.heap.size h) := F0.out.below (Below.refl _ _).drew F0.out.lt
      have F1 : Hid (CW w1.drew (w.heap.size + 1) c) := F1.out.below (Below.refl _ _).drew F1.out.lt
      have F2 : Hid (RCmd w1.drew (w.heap.size + 2)) := F2.out.below (Below.refl _ _).drew F2.out.lt
      have FB : Hid (Below w.heap.size w w1.drew) := FB.out.drew
      obtain ⟨x0_0, x0_1, x0_2, x0_3, x0_4, x0_5, x0_6, x0_7, x0_8, x0_9, x0_10, x0_11⟩ := F0.out
      obtain ⟨x1_0, x1_1, x1_2, y1_0, y1_1, y1_2⟩ := F1.out
      refine wp_region_held_drew (S := (fun w'' => w''.cell? ⟨w.heap.size, 0, none⟩ = some (.int .i64 h.fl) ∧ w''.cell? ⟨w.heap.size, 1, none⟩ = some (.int .i64 h.gp) ∧ w''.cell? ⟨w.heap.size, 2, none⟩ = some (.int .i64 h.ln) ∧ w''.cell? ⟨w.heap.size, 3, none⟩ = some (.int .i64 h.rf) ∧ w''.cell? ⟨w.heap.size, 4, none⟩ = some (.int .i64 h.sp) ∧ w''.cell? ⟨w.heap.size, 5, none⟩ = some (.int .i64 h.pu) ∧ w''.cell? ⟨w.heap.size, 6, none⟩ = some (.int .i64 h.br) ∧ w''.cell? ⟨w.heap.size, 7, none⟩ = some (.int .i64 h.dr) ∧ w''.cell? ⟨w.heap.size, 8, none⟩ = some (.int .i64 h.lv) ∧ w''.cell? ⟨w.heap.size, 9, none⟩ = some (.int .i64 h.dO) ∧ w''.cell? ⟨w.heap.size, 10, none⟩ = some (.int .i64 h.ld) ∧ w''.cell? ⟨w.heap.size, 11, none⟩ = some (.int .i64 h.qu) ∧ w''.cell? ⟨(w.heap.size + 1), 0, none⟩ = some (.int .i64 c.pos) ∧ w''.cell? ⟨(w.heap.size + 1), 1, none⟩ = some (.int .i64 c.vel) ∧ w''.cell? ⟨(w.heap.size + 1), 2, none⟩ = some (.int .i64 c.door))) (by kernel_rfl) (by (try dsimp only); first | exact ⟨x0_0, x0_1, x0_2, x0_3, x0_4, x0_5, x0_6, x0_7, x0_8, x0_9, x0_10, x0_11, x1_0, x1_1, x1_2⟩ | go_keep) (fun hHeld => ?_)
      obtain ⟨v_7, hw1⟩ : ∃ v_7, v_7 = w1.drew := ⟨_, rfl⟩
      have F0 : Hid (HAt v_7 w.heap.size h) := by rw [hw1]; exact F0.out
      have F1 : Hid (CW v_7 (w.heap.size + 1) c) := by rw [hw1]; exact F1.out
      have F2 : Hid (RCmd v_7 (w.heap.size + 2)) := by rw [hw1]; exact F2.out
      have FB : Hid (Below w.heap.size w v_7) := by rw [hw1]; exact FB.out
      rw [← hw1] at hHeld ⊢
      clear hw1
      obtain ⟨x0_0, x0_1, x0_2, x0_3, x0_4, x0_5, x0_6, x0_7, x0_8, x0_9, x0_10, x0_11⟩ := F0.out
      obtain ⟨x1_0, x1_1, x1_2, y1_0, y1_1, y1_2⟩ := F1.out
      refine tkz 0 rfl ?_
      refine tkz 1 rfl ?_
      refine tkz 2 rfl ?_
      refine tkz 3 rfl ?_
      refine tkz 4 rfl ?_
      refine tkz 5 rfl ?_
      refine wpAnyH_ready (rs := [6]) (by kernel_rfl) (by simp) ?_
      refine (AllReadyH.cons rfl (fun K hK => ?_) AllReadyH.nil)
      go_simp
      refine (wayTo_any h HO.out c f (by omega) (by omega) (by omega) (by omega) _).mono ?_
      rintro e v_8 ⟨rfl, hb⟩
      have F0 : Hid (HAt v_8 w.heap.size h) := F0.out.below hb F0.out.lt
      have F1 : Hid (CW v_8 (w.heap.size + 1) c) := F1.out.below hb F1.out.lt
      have F2 : Hid (RCmd v_8 (w.heap.size + 2)) := F2.out.below hb F2.out.lt
      have FB : Hid (Below w.heap.size w v_8) := FB.out.trans (hb.mono FB.out.size)
      clear hb
      obtain ⟨x0_0, x0_1, x0_2, x0_3, x0_4, x0_5, x0_6, x0_7, x0_8, x0_9, x0_10, x0_11⟩ := F0.out
      obtain ⟨x1_0, x1_1, x1_2, y1_0, y1_1, y1_2⟩ := F1.out
      try dsimp only
      refine hK.out _ _ (by (try dsimp only); first | exact ⟨x0_0, x0_1, x0_2, x0_3, x0_4, x0_5, x0_6, x0_7, x0_8, x0_9, x0_10, x0_11, x1_0, x1_1, x1_2⟩ | go_keep) (fun hHeld => ?_)
      clear hK K
      try simp only [Act.put, List.getElem_toArray, List.getElem_cons_succ, List.getElem_cons_zero, List.setIfInBounds_toArray, List.set_cons_zero, List.set_cons_succ]
      refine wpAnyH_ready (rs := [7]) (by kernel_rfl) (by simp) ?_
      refine (AllReadyH.cons rfl (fun K hK => ?_) AllReadyH.nil)
      go_simp
      refine (pushFor_any h HO.out _ _ (by omega) (by omega) (by omega) (by omega) _).mono ?_
      rintro e v_9 ⟨rfl, hb⟩
      have F0 : Hid (HAt v_9 w.heap.size h) := F0.out.below hb F0.out.lt
      have F1 : Hid (CW v_9 (w.heap.size + 1) c) := F1.out.below hb F1.out.lt
      have F2 : Hid (RCmd v_9 (w.heap.size + 2)) := F2.out.below hb F2.out.lt
      have FB : Hid (Below w.heap.size w v_9) := FB.out.trans (hb.mono FB.out.size)
      clear hb
      obtain ⟨x0_0, x0_1, x0_2, x0_3, x0_4, x0_5, x0_6, x0_7, x0_8, x0_9, x0_10, x0_11⟩ := F0.out
      obtain ⟨x1_0, x1_1, x1_2, y1_0, y1_1, y1_2⟩ := F1.out
      try dsimp only
      refine hK.out _ _ (by (try dsimp only); first | exact ⟨x0_0, x0_1, x0_2, x0_3, x0_4, x0_5, x0_6, x0_7, x0_8, x0_9, x0_10, x0_11, x1_0, x1_1, x1_2⟩ | go_keep) (fun hHeld => ?_)
      clear hK K
      try simp only [Act.put, List.getElem_toArray, List.getElem_cons_succ, List.getElem_cons_zero, List.setIfInBounds_toArray, List.set_cons_zero, List.set_cons_succ]
      refine tkz 8 rfl ?_
      refine wpAnyH_ready (rs := [9]) (by kernel_rfl) (by simp) ?_
      refine (AllReadyH.cons rfl (fun K hK => ?_) AllReadyH.nil)
      obtain ⟨x2_0, x2_1, x2_2, y2_0, y2_1, y2_2⟩ := F2.out
      go_simp
      obtain ⟨v_10, hw2⟩ : ∃ v_10, v_10 = putCmd v_9 (w.heap.size + 2) (⟨Hs.pushP h c.vel (h.level f - c.pos), false, false⟩ : Cm) := ⟨_, rfl⟩
      change K _ (putCmd v_9 (w.heap.size + 2) (⟨Hs.pushP h c.vel (h.level f - c.pos), false, false⟩ : Cm))
      rw [← hw2]
      clear x2_0 x2_1 x2_2 y2_0 y2_1 y2_2
      have F0 : Hid (HAt v_10 w.heap.size h) := by rw [hw2]; exact F0.out.below (below_putCmd (Below.refl _ _) (Nat.le_refl _) _) (by omega)
      have F1 : Hid (CW v_10 (w.heap.size + 1) c) := by rw [hw2]; exact F1.out.below (below_putCmd (Below.refl _ _) (Nat.le_refl _) _) (by omega)
      have F2 : Hid (VCmd v_10 (w.heap.size + 2) (⟨Hs.pushP h c.vel (h.level f - c.pos), false, false⟩ : Cm)) := by rw [hw2]; exact F2.out.put _
      have FB : Hid (Below w.heap.size w v_10) := by rw [hw2]; exact below_putCmd FB.out (by omega) _
      clear hw2
      obtain ⟨x0_0, x0_1, x0_2, x0_3, x0_4, x0_5, x0_6, x0_7, x0_8, x0_9, x0_10, x0_11⟩ := F0.out
      obtain ⟨x1_0, x1_1, x1_2, y1_0, y1_1, y1_2⟩ := F1.out
      refine hK.out _ _ (by (try dsimp only); first | exact ⟨x0_0, x0_1, x0_2, x0_3, x0_4, x0_5, x0_6, x0_7, x0_8, x0_9, x0_10, x0_11, x1_0, x1_1, x1_2⟩ | go_keep) (fun hHeld => ?_)
      clear hK K
      try simp only [Act.put, List.getElem_toArray, List.getElem_cons_succ, List.getElem_cons_zero, List.setIfInBounds_toArray, List.set_cons_zero, List.set_cons_succ]
      refine wpAnyH_done (by kernel_rfl) ?_ _
      obtain ⟨x2_0, x2_1, x2_2⟩ := F2.out
      try dsimp only at x2_0 x2_1 x2_2
      go_wp2_with fail
      exact bodyPost_ret (v := .agg #[.int .i64 (Hs.pushP h c.vel (h.level f - c.pos)), .bool false, .bool false]) (by simp [results, Try.results36, go_sem, x2_0, x2_1, x2_2]) rfl ⟨rfl, FB.out⟩
    | true =>
      rw [forC_brk hn hv]
      go_enter Try.func36, Try.ntmps36
      go_wp2_with (first | (go_at_call 50; refine (isLevel_any h HO.out c f (by omega) (by omega) (by omega) (by omega) _).mono ?_; rw [hn]; rintro e w1 ⟨rfl, hb⟩; have F0 : Hid (HAt w1 w.heap.size h) := F0.out.below hb F0.out.lt; have F1 : Hid (CW w1 (w.heap.size + 1) c) := F1.out.below hb F1.out.lt; have F2 : Hid (RCmd w1 (w.heap.size + 2)) := F2.out.below hb F2.out.lt; have FB : Hid (Below w.heap.size w w1) := FB.out.trans (hb.mono FB.out.size); clear hb; obtain ⟨x0_0, x0_1, x0_2, x0_3, x0_4, x0_5, x0_6, x0_7, x0_8, x0_9, x0_10, x0_11⟩ := F0.out; obtain ⟨x1_0, x1_1, x1_2, y1_0, y1_1, y1_2⟩ := F1.out; obtain ⟨x2_0, x2_1, x2_2, y2_0, y2_1, y2_2⟩ := F2.out) | (go_at_call 28; refine (isWithin_any _ _ _ _).mono ?_; rintro e w' ⟨rfl, hw⟩; obtain rfl := hw.symm; clear hw))
      exact bodyPost_ret (v := .agg #[.int .i64 0, .bool true, .bool false]) (by simp [results, Try.results36, go_sem, x2_0, x2_1, x2_2]) rfl ⟨rfl, by repeat (first | exact FB.out | (refine Below.setCell ?_ (by simp <;> omega) _))⟩
end Go.Proofs.Ytgdhbkgpjeedhaa
