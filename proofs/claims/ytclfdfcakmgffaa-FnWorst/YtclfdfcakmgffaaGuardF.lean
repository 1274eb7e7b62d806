/-
  The program's guard: the worst of one command, a brake in place of it, what is asked of a pair, may it go.
-/
import Derived.Test.YtclfdfcakmgffaaGdS
import Derived.Test.YtclfdfcakmgffaaGuardB
import Derived.Test.YtclfdfcakmgffaaCarN
import Derived.Test.YtclfdfcakmgffaaCarK
import Derived.Test.YtclfdfcakmgffaaCellsQ
namespace Go.Proofs.Ytclfdfcakmgffaa
open Go.RowKit Pl
set_option linter.unusedSimpArgs false
set_option linter.unusedVariables false

set_option maxRecDepth 20000 in
set_option maxHeartbeats 8000000 in
theorem highestBehind_any (h : Hs) (c : Cs) (x : Cm) (k : CarOk h c) (x1 : -h.pu ≤ x.push) (x2 : x.push ≤ h.pu) (w : World) :
    Calls Try.prog 23 #[.agg #[.int .i64 h.fl, .int .i64 h.gp, .int .i64 h.ln, .int .i64 h.rf, .int .i64 h.sp, .int .i64 h.pu, .int .i64 h.br, .int .i64 h.dr, .int .i64 h.lv, .int .i64 h.dO, .int .i64 h.ld, .int .i64 h.qu], .agg #[.int .i64 c.pos, .int .i64 c.vel, .int .i64 c.door], .agg #[.int .i64 x.push, .bool x.brk, .bool x.opn]] w fun e w' => e = .returned (.int .i64 (Hs.wh h c x)) ∧ Below w.heap.size w w' := by
  have o := k.ok
  have d1 := o.dr1; have d2 := o.dr2; have d3 := o.pu2; have d4 := o.sp2
  have ed : IntKind.i64.wrap (-h.dr) = -h.dr := IntWalk.i64_in _ (by omega)
  obtain ⟨g, hg⟩ : ∃ g, stepC h c x h.dr = g := ⟨_, rfl⟩
  have ev := step_env (x := x) (d := h.dr) k
  rw [hg] at ev
  have HE : Hid (Hs.wh h c x = h.hi g.pos g.vel) := by unfold Hs.wh; rw [hg]; exact rfl
  have HG : Hid (stepC h c x h.dr = g) := hg
  have HK : Hid (CarOk h c) := k
  have HO : Hid h.Ok := o
  clear o k hg
  have F0 : Hid (HAt (((w.alloc (.cells #[.int .i64 h.fl, .int .i64 h.gp, .int .i64 h.ln, .int .i64 h.rf, .int .i64 h.sp, .int .i64 h.pu, .int .i64 h.br, .int .i64 h.dr, .int .i64 h.lv, .int .i64 h.dO, .int .i64 h.ld, .int .i64 h.qu] 25)).alloc (.cells #[.int .i64 c.pos, .int .i64 c.vel, .int .i64 c.door] 27)).alloc (.cells #[.int .i64 x.push, .bool x.brk, .bool x.opn] 29)).drew w.heap.size h) := (((HAt.at_ w h _ _ (by simp)).alloc _).alloc _).drew
  have F1 : Hid (CW (((w.alloc (.cells #[.int .i64 h.fl, .int .i64 h.gp, .int .i64 h.ln, .int .i64 h.rf, .int .i64 h.sp, .int .i64 h.pu, .int .i64 h.br, .int .i64 h.dr, .int .i64 h.lv, .int .i64 h.dO, .int .i64 h.ld, .int .i64 h.qu] 25)).alloc (.cells #[.int .i64 c.pos, .int .i64 c.vel, .int .i64 c.door] 27)).alloc (.cells #[.int .i64 x.push, .bool x.brk, .bool x.opn] 29)).drew (w.heap.size + 1) c) := ((CW.at_ (w.alloc (.cells #[.int .i64 h.fl, .int .i64 h.gp, .int .i64 h.ln, .int .i64 h.rf, .int .i64 h.sp, .int .i64 h.pu, .int .i64 h.br, .int .i64 h.dr, .int .i64 h.lv, .int .i64 h.dO, .int .i64 h.ld, .int .i64 h.qu] 25)) c _ _ (by simp)).alloc _).drew
  have F2 : Hid (XW (((w.alloc (.cells #[.int .i64 h.fl, .int .i64 h.gp, .int .i64 h.ln, .int .i64 h.rf, .int .i64 h.sp, .int .i64 h.pu, .int .i64 h.br, .int .i64 h.dr, .int .i64 h.lv, .int .i64 h.dO, .int .i64 h.ld, .int .i64 h.qu] 25)).alloc (.cells #[.int .i64 c.pos, .int .i64 c.vel, .int .i64 c.door] 27)).alloc (.cells #[.int .i64 x.push, .bool x.brk, .bool x.opn] 29)).drew (w.heap.size + 2) x) := (XW.at_ ((w.alloc (.cells #[.int .i64 h.fl, .int .i64 h.gp, .int .i64 h.ln, .int .i64 h.rf, .int .i64 h.sp, .int .i64 h.pu, .int .i64 h.br, .int .i64 h.dr, .int .i64 h.lv, .int .i64 h.dO, .int .i64 h.ld, .int .i64 h.qu] 25)).alloc (.cells #[.int .i64 c.pos, .int .i64 c.vel, .int .i64 c.door] 27)) x _ _ (by simp)).drew
  have FB : Hid (Below w.heap.size w (((w.alloc (.cells #[.int .i64 h.fl, .int .i64 h.gp, .int .i64 h.ln, .int .i64 h.rf, .int .i64 h.sp, .int .i64 h.pu, .int .i64 h.br, .int .i64 h.dr, .int .i64 h.lv, .int .i64 h.dO, .int .i64 h.ld, .int .i64 h.qu] 25)).alloc (.cells #[.int .i64 c.pos, .int .i64 c.vel, .int .i64 c.door] 27)).alloc (.cells #[.int .i64 x.push, .bool x.brk, .bool x.opn] 29)).drew) := ((((Below.refl _ _).alloc (Nat.le_refl _) _).alloc (by simp <;> omega) _).alloc (by simp <;> omega) _).drew
  obtain ⟨x0_0, x0_1, x0_2, x0_3, x0_4, x0_5, x0_6, x0_7, x0_8, x0_9, x0_10, x0_11⟩ := F0.out
  obtain ⟨x1_0, x1_1, x1_2, y1_0, y1_1, y1_2⟩ := F1.out
  obtain ⟨x2_0, x2_1, x2_2, y2_0, y2_1, y2_2⟩ := F2.out
  go_enter Try.func23, Try.ntmps23
  go_wp2_with fail
  refine wp_region_held_drew (S := (fun w'' => w''.cell? ⟨w.heap.size, 0, none⟩ = some (.int .i64 h.fl) ∧ w''.cell? ⟨w.heap.size, 1, none⟩ = some (.int .i64 h.gp) ∧ w''.cell? ⟨w.heap.size, 2, none⟩ = some (.int .i64 h.ln) ∧ w''.cell? ⟨w.heap.size, 3, none⟩ = some (.int .i64 h.rf) ∧ w''.cell? ⟨w.heap.size, 4, none⟩ = some (.int .i64 h.sp) ∧ w''.cell? ⟨w.heap.size, 5, none⟩ = some (.int .i64 h.pu) ∧ w''.cell? ⟨w.heap.size, 6, none⟩ = some (.int .i64 h.br) ∧ w''.cell? ⟨w.heap.size, 7, none⟩ = some (.int .i64 h.dr) ∧ w''.cell? ⟨w.heap.size, 8, none⟩ = some (.int .i64 h.lv) ∧ w''.cell? ⟨w.heap.size, 9, none⟩ = some (.int .i64 h.dO) ∧ w''.cell? ⟨w.heap.size, 10, none⟩ = some (.int .i64 h.ld) ∧ w''.cell? ⟨w.heap.size, 11, none⟩ = some (.int .i64 h.qu) ∧ w''.cell? ⟨(w.heap.size + 1), 0, none⟩ = some (.int .i64 c.pos) ∧ w''.cell? ⟨(w.heap.size + 1), 1, none⟩ = some (.int .i64 c.vel) ∧ w''.cell? ⟨(w.heap.size + 1), 2, none⟩ = some (.int .i64 c.door) ∧ w''.cell? ⟨(w.heap.size + 2), 0, none⟩ = some (.int .i64 x.push) ∧ w''.cell? ⟨(w.heap.size + 2), 1, none⟩ = some (.bool x.brk) ∧ w''.cell? ⟨(w.heap.size + 2), 2, none⟩ = some (.bool x.opn))) (by kernel_rfl) (by (try dsimp only); first | exact ⟨x0_0, x0_1, x0_2, x0_3, x0_4, x0_5, x0_6, x0_7, x0_8, x0_9, x0_10, x0_11, x1_0, x1_1, x1_2, x2_0, x2_1, x2_2⟩ | go_keep) (fun hHeld => ?_)
  refine tkz 0 rfl ?_
  refine tkz 1 rfl ?_
  refine tkz 2 rfl ?_
  refine tkz 3 rfl ?_
  refine tkz 4 rfl ?_
  refine tkz 5 rfl ?_
  refine wpAnyH_ready (rs := [6]) (by kernel_rfl) (by simp) ?_
  refine AllReadyH.cons rfl (fun K hK => ?_) AllReadyH.nil
  go_simp
  refine (carBehind_any h c x h.dr HK.out x1 x2 (by omega) (by omega) g HG.out _).mono ?_
  rintro e w1 ⟨rfl, hb⟩
  have F0 : Hid (HAt w1 w.heap.size h) := F0.out.below hb F0.out.lt
  have F1 : Hid (CW w1 (w.heap.size + 1) c) := F1.out.below hb F1.out.lt
  have F2 : Hid (XW w1 (w.heap.size + 2) x) := F2.out.below hb F2.out.lt
  have FB : Hid (Below w.heap.size w w1) := FB.out.trans (hb.mono FB.out.size)
  obtain ⟨x0_0, x0_1, x0_2, x0_3, x0_4, x0_5, x0_6, x0_7, x0_8, x0_9, x0_10, x0_11⟩ := F0.out
  obtain ⟨x1_0, x1_1, x1_2, y1_0, y1_1, y1_2⟩ := F1.out
  obtain ⟨x2_0, x2_1, x2_2, y2_0, y2_1, y2_2⟩ := F2.out
  clear hb
  try go_wp2_with fail
  refine hK.out _ _ (by (try dsimp only); go_keep) (fun hHeld => ?_)
  clear hK K
  try simp only [Act.put, List.getElem_toArray, List.getElem_cons_succ, List.getElem_cons_zero, List.setIfInBounds_toArray, List.set_cons_zero, List.set_cons_succ]
  refine wpAnyH_ready (rs := [7]) (by kernel_rfl) (by simp) ?_
  refine AllReadyH.cons rfl (fun K hK => ?_) AllReadyH.nil
  go_simp
  refine (highestStop_any h HO.out g (by omega) (by omega) (by omega) (by omega) _).mono ?_
  rintro e w2 ⟨rfl, hb⟩
  have F0 : Hid (HAt w2 w.heap.size h) := F0.out.below hb F0.out.lt
  have F1 : Hid (CW w2 (w.heap.size + 1) c) := F1.out.below hb F1.out.lt
  have F2 : Hid (XW w2 (w.heap.size + 2) x) := F2.out.below hb F2.out.lt
  have FB : Hid (Below w.heap.size w w2) := FB.out.trans (hb.mono FB.out.size)
  obtain ⟨x0_0, x0_1, x0_2, x0_3, x0_4, x0_5, x0_6, x0_7, x0_8, x0_9, x0_10, x0_11⟩ := F0.out
  obtain ⟨x1_0, x1_1, x1_2, y1_0, y1_1, y1_2⟩ := F1.out
  obtain ⟨x2_0, x2_1, x2_2, y2_0, y2_1, y2_2⟩ := F2.out
  clear hb
  try go_wp2_with fail
  refine hK.out _ _ (by (try dsimp only); go_keep) (fun hHeld => ?_)
  clear hK K
  try simp only [Act.put, List.getElem_toArray, List.getElem_cons_succ, List.getElem_cons_zero, List.setIfInBounds_toArray, List.set_cons_zero, List.set_cons_succ]
  refine tkz 8 rfl ?_
  refine wpAnyH_done (by kernel_rfl) ?_ _
  go_wp2
  go_ret
  exact ⟨ret_int HE.out.symm, FB.out⟩
set_option maxRecDepth 20000 in
set_option maxHeartbeats 8000000 in
theorem lowestBehind_any (h : Hs) (c : Cs) (x : Cm) (k : CarOk h c) (x1 : -h.pu ≤ x.push) (x2 : x.push ≤ h.pu) (w : World) :
    Calls Try.prog 24 #[.agg #[.int .i64 h.fl, .int .i64 h.gp, .int .i64 h.ln, .int .i64 h.rf, .int .i64 h.sp, .int .i64 h.pu, .int .i64 h.br, .int .i64 h.dr, .int .i64 h.lv, .int .i64 h.dO, .int .i64 h.ld, .int .i64 h.qu], .agg #[.int .i64 c.pos, .int .i64 c.vel, .int .i64 c.door], .agg #[.int .i64 x.push, .bool x.brk, .bool x.opn]] w fun e w' => e = .returned (.int .i64 (Hs.wl h c x)) ∧ Below w.heap.size w w' := by
  have o := k.ok
  have d1 := o.dr1; have d2 := o.dr2; have d3 := o.pu2; have d4 := o.sp2
  have ed : IntKind.i64.wrap (-h.dr) = -h.dr := IntWalk.i64_in _ (by omega)
  obtain ⟨g, hg⟩ : ∃ g, stepC h c x (-h.dr) = g := ⟨_, rfl⟩
  have ev := step_env (x := x) (d := (-h.dr)) k
  rw [hg] at ev
  have HE : Hid (Hs.wl h c x = h.lo g.pos g.vel) := by unfold Hs.wl; rw [hg]; exact rfl
  have HG : Hid (stepC h c x (-h.dr) = g) := hg
  have HK : Hid (CarOk h c) := k
  have HO : Hid h.Ok := o
  clear o k hg
  have F0 : Hid (HAt (((w.alloc (.cells #[.int .i64 h.fl, .int .i64 h.gp, .int .i64 h.ln, .int .i64 h.rf, .int .i64 h.sp, .int .i64 h.pu, .int .i64 h.br, .int .i64 h.dr, .int .i64 h.lv, .int .i64 h.dO, .int .i64 h.ld, .int .i64 h.qu] 25)).alloc (.cells #[.int .i64 c.pos, .int .i64 c.vel, .int .i64 c.door] 27)).alloc (.cells #[.int .i64 x.push, .bool x.brk, .bool x.opn] 29)).drew w.heap.size h) := (((HAt.at_ w h _ _ (by simp)).alloc _).alloc _).drew
  have F1 : Hid (CW (((w.alloc (.cells #[.int .i64 h.fl, .int .i64 h.gp, .int .i64 h.ln, .int .i64 h.rf, .int .i64 h.sp, .int .i64 h.pu, .int .i64 h.br, .int .i64 h.dr, .int .i64 h.lv, .int .i64 h.dO, .int .i64 h.ld, .int .i64 h.qu] 25)).alloc (.cells #[.int .i64 c.pos, .int .i64 c.vel, .int .i64 c.door] 27)).alloc (.cells #[.int .i64 x.push, .bool x.brk, .bool x.opn] 29)).drew (w.heap.size + 1) c) := ((CW.at_ (w.alloc (.cells #[.int .i64 h.fl, .int .i64 h.gp, .int .i64 h.ln, .int .i64 h.rf, .int .i64 h.sp, .int .i64 h.pu, .int .i64 h.br, .int .i64 h.dr, .int .i64 h.lv, .int .i64 h.dO, .int .i64 h.ld, .int .i64 h.qu] 25)) c _ _ (by simp)).alloc _).drew
  have F2 : Hid (XW (((w.alloc (.cells #[.int .i64 h.fl, .int .i64 h.gp, .int .i64 h.ln, .int .i64 h.rf, .int .i64 h.sp, .int .i64 h.pu, .int .i64 h.br, .int .i64 h.dr, .int .i64 h.lv, .int .i64 h.dO, .int .i64 h.ld, .int .i64 h.qu] 25)).alloc (.cells #[.int .i64 c.pos, .int .i64 c.vel, .int .i64 c.door] 27)).alloc (.cells #[.int .i64 x.push, .bool x.brk, .bool x.opn] 29)).drew (w.heap.size + 2) x) := (XW.at_ ((w.alloc (.cells #[.int .i64 h.fl, .int .i64 h.gp, .int .i64 h.ln, .int .i64 h.rf, .int .i64 h.sp, .int .i64 h.pu, .int .i64 h.br, .int .i64 h.dr, .int .i64 h.lv, .int .i64 h.dO, .int .i64 h.ld, .int .i64 h.qu] 25)).alloc (.cells #[.int .i64 c.pos, .int .i64 c.vel, .int .i64 c.door] 27)) x _ _ (by simp)).drew
  have FB : Hid (Below w.heap.size w (((w.alloc (.cells #[.int .i64 h.fl, .int .i64 h.gp, .int .i64 h.ln, .int .i64 h.rf, .int .i64 h.sp, .int .i64 h.pu, .int .i64 h.br, .int .i64 h.dr, .int .i64 h.lv, .int .i64 h.dO, .int .i64 h.ld, .int .i64 h.qu] 25)).alloc (.cells #[.int .i64 c.pos, .int .i64 c.vel, .int .i64 c.door] 27)).alloc (.cells #[.int .i64 x.push, .bool x.brk, .bool x.opn] 29)).drew) := ((((Below.refl _ _).alloc (Nat.le_refl _) _).alloc (by simp <;> omega) _).alloc (by simp <;> omega) _).drew
  obtain ⟨x0_0, x0_1, x0_2, x0_3, x0_4, x0_5, x0_6, x0_7, x0_8, x0_9, x0_10, x0_11⟩ := F0.out
  obtain ⟨x1_0, x1_1, x1_2, y1_0, y1_1, y1_2⟩ := F1.out
  obtain ⟨x2_0, x2_1, x2_2, y2_0, y2_1, y2_2⟩ := F2.out
  go_enter Try.func24, Try.ntmps24
  go_wp2_with fail
  refine wp_region_held_drew (S := (fun w'' => w''.cell? ⟨w.heap.size, 0, none⟩ = some (.int .i64 h.fl) ∧ w''.cell? ⟨w.heap.size, 1, none⟩ = some (.int .i64 h.gp) ∧ w''.cell? ⟨w.heap.size, 2, none⟩ = some (.int .i64 h.ln) ∧ w''.cell? ⟨w.heap.size, 3, none⟩ = some (.int .i64 h.rf) ∧ w''.cell? ⟨w.heap.size, 4, none⟩ = some (.int .i64 h.sp) ∧ w''.cell? ⟨w.heap.size, 5, none⟩ = some (.int .i64 h.pu) ∧ w''.cell? ⟨w.heap.size, 6, none⟩ = some (.int .i64 h.br) ∧ w''.cell? ⟨w.heap.size, 7, none⟩ = some (.int .i64 h.dr) ∧ w''.cell? ⟨w.heap.size, 8, none⟩ = some (.int .i64 h.lv) ∧ w''.cell? ⟨w.heap.size, 9, none⟩ = some (.int .i64 h.dO) ∧ w''.cell? ⟨w.heap.size, 10, none⟩ = some (.int .i64 h.ld) ∧ w''.cell? ⟨w.heap.size, 11, none⟩ = some (.int .i64 h.qu) ∧ w''.cell? ⟨(w.heap.size + 1), 0, none⟩ = some (.int .i64 c.pos) ∧ w''.cell? ⟨(w.heap.size + 1), 1, none⟩ = some (.int .i64 c.vel) ∧ w''.cell? ⟨(w.heap.size + 1), 2, none⟩ = some (.int .i64 c.door) ∧ w''.cell? ⟨(w.heap.size + 2), 0, none⟩ = some (.int .i64 x.push) ∧ w''.cell? ⟨(w.heap.size + 2), 1, none⟩ = some (.bool x.brk) ∧ w''.cell? ⟨(w.heap.size + 2), 2, none⟩ = some (.bool x.opn))) (by kernel_rfl) (by (try dsimp only); first | exact ⟨x0_0, x0_1, x0_2, x0_3, x0_4, x0_5, x0_6, x0_7, x0_8, x0_9, x0_10, x0_11, x1_0, x1_1, x1_2, x2_0, x2_1, x2_2⟩ | go_keep) (fun hHeld => ?_)
  refine tkz 0 rfl ?_
  refine tkz 1 rfl ?_
  refine tkz 2 rfl ?_
  refine tkz 3 rfl ?_
  refine tkz 4 rfl ?_
  refine tkz 5 rfl ?_
  refine tkz 6 rfl ?_
  refine wpAnyH_ready (rs := [7]) (by kernel_rfl) (by simp) ?_
  refine AllReadyH.cons rfl (fun K hK => ?_) AllReadyH.nil
  go_simp
  refine (carBehind_any h c x (-h.dr) HK.out x1 x2 (by omega) (by omega) g HG.out _).mono ?_
  rintro e w1 ⟨rfl, hb⟩
  have F0 : Hid (HAt w1 w.heap.size h) := F0.out.below hb F0.out.lt
  have F1 : Hid (CW w1 (w.heap.size + 1) c) := F1.out.below hb F1.out.lt
  have F2 : Hid (XW w1 (w.heap.size + 2) x) := F2.out.below hb F2.out.lt
  have FB : Hid (Below w.heap.size w w1) := FB.out.trans (hb.mono FB.out.size)
  obtain ⟨x0_0, x0_1, x0_2, x0_3, x0_4, x0_5, x0_6, x0_7, x0_8, x0_9, x0_10, x0_11⟩ := F0.out
  obtain ⟨x1_0, x1_1, x1_2, y1_0, y1_1, y1_2⟩ := F1.out
  obtain ⟨x2_0, x2_1, x2_2, y2_0, y2_1, y2_2⟩ := F2.out
  clear hb
  try go_wp2_with fail
  refine hK.out _ _ (by (try dsimp only); go_keep) (fun hHeld => ?_)
  clear hK K
  try simp only [Act.put, List.getElem_toArray, List.getElem_cons_succ, List.getElem_cons_zero, List.setIfInBounds_toArray, List.set_cons_zero, List.set_cons_succ]
  refine wpAnyH_ready (rs := [8]) (by kernel_rfl) (by simp) ?_
  refine AllReadyH.cons rfl (fun K hK => ?_) AllReadyH.nil
  go_simp
  refine (lowestStop_any h HO.out g (by omega) (by omega) (by omega) (by omega) _).mono ?_
  rintro e w2 ⟨rfl, hb⟩
  have F0 : Hid (HAt w2 w.heap.size h) := F0.out.below hb F0.out.lt
  have F1 : Hid (CW w2 (w.heap.size + 1) c) := F1.out.below hb F1.out.lt
  have F2 : Hid (XW w2 (w.heap.size + 2) x) := F2.out.below hb F2.out.lt
  have FB : Hid (Below w.heap.size w w2) := FB.out.trans (hb.mono FB.out.size)
  obtain ⟨x0_0, x0_1, x0_2, x0_3, x0_4, x0_5, x0_6, x0_7, x0_8, x0_9, x0_10, x0_11⟩ := F0.out
  obtain ⟨x1_0, x1_1, x1_2, y1_0, y1_1, y1_2⟩ := F1.out
  obtain ⟨x2_0, x2_1, x2_2, y2_0, y2_1, y2_2⟩ := F2.out
  clear hb
  try go_wp2_with fail
  refine hK.out _ _ (by (try dsimp only); go_keep) (fun hHeld => ?_)
  clear hK K
  try simp only [Act.put, List.getElem_toArray, List.getElem_cons_succ, List.getElem_cons_zero, List.setIfInBounds_toArray, List.set_cons_zero, List.set_cons_succ]
  refine tkz 9 rfl ?_
  refine wpAnyH_done (by kernel_rfl) ?_ _
  go_wp2
  go_ret
  exact ⟨ret_int HE.out.symm, FB.out⟩
set_option maxRecDepth 20000 in
set_option maxHeartbeats 8000000 in
theorem heldBack_any (c : Cs) (x y : Cm) (hy : brkFor c x = y) (w : World) :
    Calls Try.prog 68 #[.agg #[.int .i64 c.pos, .int .i64 c.vel, .int .i64 c.door], .agg #[.int .i64 x.push, .bool x.brk, .bool x.opn]] w fun e w' => e = .returned (.agg #[.int .i64 y.push, .bool y.brk, .bool y.opn]) ∧ Below w.heap.size w w' := by
  unfold brkFor at hy
  by_cases dz : c.door ≠ 0
  · rw [if_pos dz] at hy
    have b0 : (c.door != 0) = true := by simpa using dz
    clear dz
    subst hy
    go_enter Try.func68, Try.ntmps68
    go_wp2
    exact bodyPost_ret (v := .agg #[.int .i64 x.push, .bool x.brk, .bool x.opn]) (by simp [results, Try.results68, go_sem]) rfl ⟨rfl, by repeat (first | exact Below.refl _ _ | (refine Below.setCell ?_ ?_ _) | (refine Below.alloc ?_ ?_ _) | (simp; omega) | simp)⟩
  · rw [if_neg dz] at hy
    have b0 : (c.door != 0) = false := by simpa using dz
    clear dz
    subst hy
    go_enter Try.func68, Try.ntmps68
    go_wp2
    exact bodyPost_ret (v := .agg #[.int .i64 0, .bool true, .bool false]) (by simp [results, Try.results68, go_sem]) rfl ⟨rfl, by repeat (first | exact Below.refl _ _ | (refine Below.setCell ?_ ?_ _) | (refine Below.alloc ?_ ?_ _) | (simp; omega) | simp)⟩
set_option maxRecDepth 20000 in
set_option maxHeartbeats 16000000 in
theorem isSafe_any (h : Hs) (s : Sh) (p : Pr) (kl : CarOk h s.lo) (ku : CarOk h s.up) (a1 : -h.pu ≤ p.a.push) (a2 : p.a.push ≤ h.pu) (b1 : -h.pu ≤ p.b.push) (b2 : p.b.push ≤ h.pu) (w : World) :
    Calls Try.prog 69 #[.agg #[.int .i64 h.fl, .int .i64 h.gp, .int .i64 h.ln, .int .i64 h.rf, .int .i64 h.sp, .int .i64 h.pu, .int .i64 h.br, .int .i64 h.dr, .int .i64 h.lv, .int .i64 h.dO, .int .i64 h.ld, .int .i64 h.qu], .agg #[.int .i64 s.lo.pos, .int .i64 s.lo.vel, .int .i64 s.lo.door, .int .i64 s.up.pos, .int .i64 s.up.vel, .int .i64 s.up.door], .agg #[.int .i64 p.a.push, .bool p.a.brk, .bool p.a.opn, .int .i64 p.b.push, .bool p.b.brk, .bool p.b.opn]] w fun e w' => e = .returned (.bool (Hs.may h s p.a p.b)) ∧ Below w.heap.size w w' := by
  have o := kl.ok
  have c1 := Hs.wl_bd ku p.b; have c2 := Hs.wh_bd kl p.a
  have e1 : IntKind.i64.wrap (Hs.wl h s.up p.b - Hs.wh h s.lo p.a) = Hs.wl h s.up p.b - Hs.wh h s.lo p.a := IntWalk.i64_in _ (by omega)
  have HE : Hid (Hs.may h s p.a p.b = (decide (h.ln ≤ Hs.wl h s.up p.b - Hs.wh h s.lo p.a) && (decide (Hs.wh h s.up p.b ≤ h.high) && decide (h.low ≤ Hs.wl h s.lo p.a)))) := rfl
  have HO : Hid h.Ok := o
  have HL : Hid (CarOk h s.lo) := kl
  have HU : Hid (CarOk h s.up) := ku
  have HA : Hid (-h.pu ≤ p.a.push ∧ p.a.push ≤ h.pu) := ⟨a1, a2⟩
  have HB : Hid (-h.pu ≤ p.b.push ∧ p.b.push ≤ h.pu) := ⟨b1, b2⟩
  clear o kl ku a1 a2 b1 b2 c1 c2
  have F0 : Hid (HAt (((w.alloc (.cells #[.int .i64 h.fl, .int .i64 h.gp, .int .i64 h.ln, .int .i64 h.rf, .int .i64 h.sp, .int .i64 h.pu, .int .i64 h.br, .int .i64 h.dr, .int .i64 h.lv, .int .i64 h.dO, .int .i64 h.ld, .int .i64 h.qu] 25)).alloc (.cells #[.int .i64 s.lo.pos, .int .i64 s.lo.vel, .int .i64 s.lo.door, .int .i64 s.up.pos, .int .i64 s.up.vel, .int .i64 s.up.door] 40)).alloc (.cells #[.int .i64 p.a.push, .bool p.a.brk, .bool p.a.opn, .int .i64 p.b.push, .bool p.b.brk, .bool p.b.opn] 66)).drew w.heap.size h) := (((HAt.at_ w h _ _ (by simp)).alloc _).alloc _).drew
  have F1 : Hid (SW (((w.alloc (.cells #[.int .i64 h.fl, .int .i64 h.gp, .int .i64 h.ln, .int .i64 h.rf, .int .i64 h.sp, .int .i64 h.pu, .int .i64 h.br, .int .i64 h.dr, .int .i64 h.lv, .int .i64 h.dO, .int .i64 h.ld, .int .i64 h.qu] 25)).alloc (.cells #[.int .i64 s.lo.pos, .int .i64 s.lo.vel, .int .i64 s.lo.door, .int .i64 s.up.pos, .int .i64 s.up.vel, .int .i64 s.up.door] 40)).alloc (.cells #[.int .i64 p.a.push, .bool p.a.brk, .bool p.a.opn, .int .i64 p.b.push, .bool p.b.brk, .bool p.b.opn] 66)).drew (w.heap.size + 1) s) := ((SW.at_ (w.alloc (.cells #[.int .i64 h.fl, .int .i64 h.gp, .int .i64 h.ln, .int .i64 h.rf, .int .i64 h.sp, .int .i64 h.pu, .int .i64 h.br, .int .i64 h.dr, .int .i64 h.lv, .int .i64 h.dO, .int .i64 h.ld, .int .i64 h.qu] 25)) s _ _ (by simp)).alloc _).drew
  have F2 : Hid (JW (((w.alloc (.cells #[.int .i64 h.fl, .int .i64 h.gp, .int .i64 h.ln, .int .i64 h.rf, .int .i64 h.sp, .int .i64 h.pu, .int .i64 h.br, .int .i64 h.dr, .int .i64 h.lv, .int .i64 h.dO, .int .i64 h.ld, .int .i64 h.qu] 25)).alloc (.cells #[.int .i64 s.lo.pos, .int .i64 s.lo.vel, .int .i64 s.lo.door, .int .i64 s.up.pos, .int .i64 s.up.vel, .int .i64 s.up.door] 40)).alloc (.cells #[.int .i64 p.a.push, .bool p.a.brk, .bool p.a.opn, .int .i64 p.b.push, .bool p.b.brk, .bool p.b.opn] 66)).drew (w.heap.size + 2) p) := (JW.at_ ((w.alloc (.cells #[.int .i64 h.fl, .int .i64 h.gp, .int .i64 h.ln, .int .i64 h.rf, .int .i64 h.sp, .int .i64 h.pu, .int .i64 h.br, .int .i64 h.dr, .int .i64 h.lv, .int .i64 h.dO, .int .i64 h.ld, .int .i64 h.qu] 25)).alloc (.cells #[.int .i64 s.lo.pos, .int .i64 s.lo.vel, .int .i64 s.lo.door, .int .i64 s.up.pos, .int .i64 s.up.vel, .int .i64 s.up.door] 40)) p _ _ (by simp)).drew
  have FB : Hid (Below w.heap.size w (((w.alloc (.cells #[.int .i64 h.fl, .int .i64 h.gp, .int .i64 h.ln, .int .i64 h.rf, .int .i64 h.sp, .int .i64 h.pu, .int .i64 h.br, .int .i64 h.dr, .int .i64 h.lv, .int .i64 h.dO, .int .i64 h.ld, .int .i64 h.qu] 25)).alloc (.cells #[.int .i64 s.lo.pos, .int .i64 s.lo.vel, .int .i64 s.lo.door, .int .i64 s.up.pos, .int .i64 s.up.vel, .int .i64 s.up.door] 40)).alloc (.cells #[.int .i64 p.a.push, .bool p.a.brk, .bool p.a.opn, .int .i64 p.b.push, .bool p.b.brk, .bool p.b.opn] 66)).drew) := ((((Below.refl _ _).alloc (Nat.le_refl _) _).alloc (by simp <;> omega) _).alloc (by simp <;> omega) _).drew
  obtain ⟨x0_0, x0_1, x0_2, x0_3, x0_4, x0_5, x0_6, x0_7, x0_8, x0_9, x0_10, x0_11⟩ := F0.out
  obtain ⟨x1_0, x1_1, x1_2, x1_3, x1_4, x1_5, y1_0, y1_1, y1_2, y1_3, y1_4, y1_5⟩ := F1.out
  obtain ⟨x2_0, x2_1, x2_2, x2_3, x2_4, x2_5, y2_0, y2_1, y2_2, y2_3, y2_4, y2_5⟩ := F2.out
  go_enter Try.func69, Try.ntmps69
  go_wp2_with fail
  refine wp_region_held_drew (S := (fun w'' => w''.cell? ⟨w.heap.size, 0, none⟩ = some (.int .i64 h.fl) ∧ w''.cell? ⟨w.heap.size, 1, none⟩ = some (.int .i64 h.gp) ∧ w''.cell? ⟨w.heap.size, 2, none⟩ = some (.int .i64 h.ln) ∧ w''.cell? ⟨w.heap.size, 3, none⟩ = some (.int .i64 h.rf) ∧ w''.cell? ⟨w.heap.size, 4, none⟩ = some (.int .i64 h.sp) ∧ w''.cell? ⟨w.heap.size, 5, none⟩ = some (.int .i64 h.pu) ∧ w''.cell? ⟨w.heap.size, 6, none⟩ = some (.int .i64 h.br) ∧ w''.cell? ⟨w.heap.size, 7, none⟩ = some (.int .i64 h.dr) ∧ w''.cell? ⟨w.heap.size, 8, none⟩ = some (.int .i64 h.lv) ∧ w''.cell? ⟨w.heap.size, 9, none⟩ = some (.int .i64 h.dO) ∧ w''.cell? ⟨w.heap.size, 10, none⟩ = some (.int .i64 h.ld) ∧ w''.cell? ⟨w.heap.size, 11, none⟩ = some (.int .i64 h.qu) ∧ w''.cell? ⟨(w.heap.size + 1), 0, none⟩ = some (.int .i64 s.lo.pos) ∧ w''.cell? ⟨(w.heap.size + 1), 1, none⟩ = some (.int .i64 s.lo.vel) ∧ w''.cell? ⟨(w.heap.size + 1), 2, none⟩ = some (.int .i64 s.lo.door) ∧ w''.cell? ⟨(w.heap.size + 1), 3, none⟩ = some (.int .i64 s.up.pos) ∧ w''.cell? ⟨(w.heap.size + 1), 4, none⟩ = some (.int .i64 s.up.vel) ∧ w''.cell? ⟨(w.heap.size + 1), 5, none⟩ = some (.int .i64 s.up.door) ∧ w''.cell? ⟨(w.heap.size + 2), 0, none⟩ = some (.int .i64 p.a.push) ∧ w''.cell? ⟨(w.heap.size + 2), 1, none⟩ = some (.bool p.a.brk) ∧ w''.cell? ⟨(w.heap.size + 2), 2, none⟩ = some (.bool p.a.opn) ∧ w''.cell? ⟨(w.heap.size + 2), 3, none⟩ = some (.int .i64 p.b.push) ∧ w''.cell? ⟨(w.heap.size + 2), 4, none⟩ = some (.bool p.b.brk) ∧ w''.cell? ⟨(w.heap.size + 2), 5, none⟩ = some (.bool p.b.opn))) (by kernel_rfl) (by (try dsimp only); first | exact ⟨x0_0, x0_1, x0_2, x0_3, x0_4, x0_5, x0_6, x0_7, x0_8, x0_9, x0_10, x0_11, x1_0, x1_1, x1_2, x1_3, x1_4, x1_5, x2_0, x2_1, x2_2, x2_3, x2_4, x2_5⟩ | go_keep) (fun hHeld => ?_)
  refine tkz 0 rfl ?_
  refine tkz 1 rfl ?_
  refine tkz 2 rfl ?_
  refine tkz 3 rfl ?_
  refine tkz 4 rfl ?_
  refine tkz 6 rfl ?_
  refine tkz 7 rfl ?_
  refine tkz 8 rfl ?_
  refine tkz 9 rfl ?_
  refine tkz 10 rfl ?_
  refine wpAnyH_ready (rs := [5]) (by kernel_rfl) (by simp) ?_
  refine AllReadyH.cons rfl (fun K hK => ?_) AllReadyH.nil
  go_simp
  refine (lowestBehind_any h s.up p.b HU.out HB.out.1 HB.out.2 _).mono ?_
  rintro e w3 ⟨rfl, hb⟩
  have F0 : Hid (HAt w3 w.heap.size h) := F0.out.below hb F0.out.lt
  have F1 : Hid (SW w3 (w.heap.size + 1) s) := F1.out.below hb F1.out.lt
  have F2 : Hid (JW w3 (w.heap.size + 2) p) := F2.out.below hb F2.out.lt
  have FB : Hid (Below w.heap.size w w3) := FB.out.trans (hb.mono FB.out.size)
  obtain ⟨x0_0, x0_1, x0_2, x0_3, x0_4, x0_5, x0_6, x0_7, x0_8, x0_9, x0_10, x0_11⟩ := F0.out
  obtain ⟨x1_0, x1_1, x1_2, x1_3, x1_4, x1_5, y1_0, y1_1, y1_2, y1_3, y1_4, y1_5⟩ := F1.out
  obtain ⟨x2_0, x2_1, x2_2, x2_3, x2_4, x2_5, y2_0, y2_1, y2_2, y2_3, y2_4, y2_5⟩ := F2.out
  clear hb
  try go_wp2_with fail
  refine hK.out _ _ (by (try dsimp only); go_keep) (fun hHeld => ?_)
  clear hK K
  try simp only [Act.put, List.getElem_toArray, List.getElem_cons_succ, List.getElem_cons_zero, List.setIfInBounds_toArray, List.set_cons_zero, List.set_cons_succ]
  refine wpAnyH_ready (rs := [11]) (by kernel_rfl) (by simp) ?_
  refine AllReadyH.cons rfl (fun K hK => ?_) AllReadyH.nil
  go_simp
  refine (highestBehind_any h s.lo p.a HL.out HA.out.1 HA.out.2 _).mono ?_
  rintro e w3 ⟨rfl, hb⟩
  have F0 : Hid (HAt w3 w.heap.size h) := F0.out.below hb F0.out.lt
  have F1 : Hid (SW w3 (w.heap.size + 1) s) := F1.out.below hb F1.out.lt
  have F2 : Hid (JW w3 (w.heap.size + 2) p) := F2.out.below hb F2.out.lt
  have FB : Hid (Below w.heap.size w w3) := FB.out.trans (hb.mono FB.out.size)
  obtain ⟨x0_0, x0_1, x0_2, x0_3, x0_4, x0_5, x0_6, x0_7, x0_8, x0_9, x0_10, x0_11⟩ := F0.out
  obtain ⟨x1_0, x1_1, x1_2, x1_3, x1_4, x1_5, y1_0, y1_1, y1_2, y1_3, y1_4, y1_5⟩ := F1.out
  obtain ⟨x2_0, x2_1, x2_2, x2_3, x2_4, x2_5, y2_0, y2_1, y2_2, y2_3, y2_4, y2_5⟩ := F2.out
  clear hb
  try go_wp2_with fail
  refine hK.out _ _ (by (try dsimp only); go_keep) (fun hHeld => ?_)
  clear hK K
  try simp only [Act.put, List.getElem_toArray, List.getElem_cons_succ, List.getElem_cons_zero, List.setIfInBounds_toArray, List.set_cons_zero, List.set_cons_succ]
  refine tkz 12 rfl ?_
  refine tkz 13 rfl ?_
  refine wpAnyH_done (by kernel_rfl) ?_ _
  go_wp2_with fail
  have F0 : Hid (HAt w3.drew w.heap.size h) := F0.out.drew
  have F1 : Hid (SW w3.drew (w.heap.size + 1) s) := F1.out.drew
  have F2 : Hid (JW w3.drew (w.heap.size + 2) p) := F2.out.drew
  have FB : Hid (Below w.heap.size w w3.drew) := FB.out.drew
  cases n1 : decide (h.ln ≤ Hs.wl h s.up p.b - Hs.wh h s.lo p.a) with
  | false =>
    refine wp_region_held_drew (S := (fun w'' => w''.cell? ⟨w.heap.size, 0, none⟩ = some (.int .i64 h.fl) ∧ w''.cell? ⟨w.heap.size, 1, none⟩ = some (.int .i64 h.gp) ∧ w''.cell? ⟨w.heap.size, 2, none⟩ = some (.int .i64 h.ln) ∧ w''.cell? ⟨w.heap.size, 3, none⟩ = some (.int .i64 h.rf) ∧ w''.cell? ⟨w.heap.size, 4, none⟩ = some (.int .i64 h.sp) ∧ w''.cell? ⟨w.heap.size, 5, none⟩ = some (.int .i64 h.pu) ∧ w''.cell? ⟨w.heap.size, 6, none⟩ = some (.int .i64 h.br) ∧ w''.cell? ⟨w.heap.size, 7, none⟩ = some (.int .i64 h.dr) ∧ w''.cell? ⟨w.heap.size, 8, none⟩ = some (.int .i64 h.lv) ∧ w''.cell? ⟨w.heap.size, 9, none⟩ = some (.int .i64 h.dO) ∧ w''.cell? ⟨w.heap.size, 10, none⟩ = some (.int .i64 h.ld) ∧ w''.cell? ⟨w.heap.size, 11, none⟩ = some (.int .i64 h.qu) ∧ w''.cell? ⟨(w.heap.size + 1), 0, none⟩ = some (.int .i64 s.lo.pos) ∧ w''.cell? ⟨(w.heap.size + 1), 1, none⟩ = some (.int .i64 s.lo.vel) ∧ w''.cell? ⟨(w.heap.size + 1), 2, none⟩ = some (.int .i64 s.lo.door) ∧ w''.cell? ⟨(w.heap.size + 1), 3, none⟩ = some (.int .i64 s.up.pos) ∧ w''.cell? ⟨(w.heap.size + 1), 4, none⟩ = some (.int .i64 s.up.vel) ∧ w''.cell? ⟨(w.heap.size + 1), 5, none⟩ = some (.int .i64 s.up.door) ∧ w''.cell? ⟨(w.heap.size + 2), 0, none⟩ = some (.int .i64 p.a.push) ∧ w''.cell? ⟨(w.heap.size + 2), 1, none⟩ = some (.bool p.a.brk) ∧ w''.cell? ⟨(w.heap.size + 2), 2, none⟩ = some (.bool p.a.opn) ∧ w''.cell? ⟨(w.heap.size + 2), 3, none⟩ = some (.int .i64 p.b.push) ∧ w''.cell? ⟨(w.heap.size + 2), 4, none⟩ = some (.bool p.b.brk) ∧ w''.cell? ⟨(w.heap.size + 2), 5, none⟩ = some (.bool p.b.opn))) (by kernel_rfl) (by (try dsimp only); first | exact ⟨x0_0, x0_1, x0_2, x0_3, x0_4, x0_5, x0_6, x0_7, x0_8, x0_9, x0_10, x0_11, x1_0, x1_1, x1_2, x1_3, x1_4, x1_5, x2_0, x2_1, x2_2, x2_3, x2_4, x2_5⟩ | go_keep) (fun hHeld => ?_)
    refine tkz 0 rfl ?_
    refine tkz 1 rfl ?_
    refine tkz 2 rfl ?_
    refine tkz 3 rfl ?_
    refine tkz 4 rfl ?_
    refine tbz 5 rfl ?_
    refine tbz 6 rfl ?_
    refine tbz 7 rfl ?_
    refine tbz 8 rfl ?_
    refine tbz 9 rfl ?_
    refine tbz 10 rfl ?_
    refine tbz 11 rfl ?_
    refine tbz 12 rfl ?_
    refine tbz 13 rfl ?_
    refine tkz 14 rfl ?_
    refine tkz 15 rfl ?_
    refine tbz 16 rfl ?_
    refine tbz 17 rfl ?_
    refine tbz 18 rfl ?_
    refine tbz 19 rfl ?_
    refine tbz 20 rfl ?_
    refine tbz 21 rfl ?_
    refine tbz 22 rfl ?_
    refine tbz 23 rfl ?_
    refine tbz 24 rfl ?_
    refine tkz 25 rfl ?_
    refine tkz 26 rfl ?_
    refine wpAnyH_done (by kernel_rfl) ?_ _
    go_wp2
    go_ret
    exact ⟨ret_bool (by rw [HE.out, n1]; rfl), FB.out⟩
  | true =>
    cases n2 : decide (Hs.wh h s.up p.b ≤ h.high) with
    | false =>
      refine wp_region_held_drew (S := (fun w'' => w''.cell? ⟨w.heap.size, 0, none⟩ = some (.int .i64 h.fl) ∧ w''.cell? ⟨w.heap.size, 1, none⟩ = some (.int .i64 h.gp) ∧ w''.cell? ⟨w.heap.size, 2, none⟩ = some (.int .i64 h.ln) ∧ w''.cell? ⟨w.heap.size, 3, none⟩ = some (.int .i64 h.rf) ∧ w''.cell? ⟨w.heap.size, 4, none⟩ = some (.int .i64 h.sp) ∧ w''.cell? ⟨w.heap.size, 5, none⟩ = some (.int .i64 h.pu) ∧ w''.cell? ⟨w.heap.size, 6, none⟩ = some (.int .i64 h.br) ∧ w''.cell? ⟨w.heap.size, 7, none⟩ = some (.int .i64 h.dr) ∧ w''.cell? ⟨w.heap.size, 8, none⟩ = some (.int .i64 h.lv) ∧ w''.cell? ⟨w.heap.size, 9, none⟩ = some (.int .i64 h.dO) ∧ w''.cell? ⟨w.heap.size, 10, none⟩ = some (.int .i64 h.ld) ∧ w''.cell? ⟨w.heap.size, 11, none⟩ = some (.int .i64 h.qu) ∧ w''.cell? ⟨(w.heap.size + 1), 0, none⟩ = some (.int .i64 s.lo.pos) ∧ w''.cell? ⟨(w.heap.size + 1), 1, none⟩ = some (.int .i64 s.lo.vel) ∧ w''.cell? ⟨(w.heap.size + 1), 2, none⟩ = some (.int .i64 s.lo.door) ∧ w''.cell? ⟨(w.heap.size + 1), 3, none⟩ = some (.int .i64 s.up.pos) ∧ w''.cell? ⟨(w.heap.size + 1), 4, none⟩ = some (.int .i64 s.up.vel) ∧ w''.cell? ⟨(w.heap.size + 1), 5, none⟩ = some (.int .i64 s.up.door) ∧ w''.cell? ⟨(w.heap.size + 2), 0, none⟩ = some (.int .i64 p.a.push) ∧ w''.cell? ⟨(w.heap.size + 2), 1, none⟩ = some (.bool p.a.brk) ∧ w''.cell? ⟨(w.heap.size + 2), 2, none⟩ = some (.bool p.a.opn) ∧ w''.cell? ⟨(w.heap.size + 2), 3, none⟩ = some (.int .i64 p.b.push) ∧ w''.cell? ⟨(w.heap.size + 2), 4, none⟩ = some (.bool p.b.brk) ∧ w''.cell? ⟨(w.heap.size + 2), 5, none⟩ = some (.bool p.b.opn))) (by kernel_rfl) (by (try dsimp only); first | exact ⟨x0_0, x0_1, x0_2, x0_3, x0_4, x0_5, x0_6, x0_7, x0_8, x0_9, x0_10, x0_11, x1_0, x1_1, x1_2, x1_3, x1_4, x1_5, x2_0, x2_1, x2_2, x2_3, x2_4, x2_5⟩ | go_keep) (fun hHeld => ?_)
      refine tkz 0 rfl ?_
      refine tkz 1 rfl ?_
      refine tkz 2 rfl ?_
      refine tkz 3 rfl ?_
      refine tkz 4 rfl ?_
      refine tkz 5 rfl ?_
      refine tkz 6 rfl ?_
      refine tkz 7 rfl ?_
      refine tkz 8 rfl ?_
      refine tkz 9 rfl ?_
      refine tkz 11 rfl ?_
      refine wpAnyH_ready (rs := [10]) (by kernel_rfl) (by simp) ?_
      refine AllReadyH.cons rfl (fun K hK => ?_) AllReadyH.nil
      go_simp
      refine (highestBehind_any h s.up p.b HU.out HB.out.1 HB.out.2 _).mono ?_
      rintro e w5 ⟨rfl, hb⟩
      have F0 : Hid (HAt w5 w.heap.size h) := F0.out.below hb F0.out.lt
      have F1 : Hid (SW w5 (w.heap.size + 1) s) := F1.out.below hb F1.out.lt
      have F2 : Hid (JW w5 (w.heap.size + 2) p) := F2.out.below hb F2.out.lt
      have FB : Hid (Below w.heap.size w w5) := FB.out.trans (hb.mono FB.out.size)
      obtain ⟨x0_0, x0_1, x0_2, x0_3, x0_4, x0_5, x0_6, x0_7, x0_8, x0_9, x0_10, x0_11⟩ := F0.out
      obtain ⟨x1_0, x1_1, x1_2, x1_3, x1_4, x1_5, y1_0, y1_1, y1_2, y1_3, y1_4, y1_5⟩ := F1.out
      obtain ⟨x2_0, x2_1, x2_2, x2_3, x2_4, x2_5, y2_0, y2_1, y2_2, y2_3, y2_4, y2_5⟩ := F2.out
      clear hb
      try go_wp2_with fail
      refine hK.out _ _ (by (try dsimp only); go_keep) (fun hHeld => ?_)
      clear hK K
      try simp only [Act.put, List.getElem_toArray, List.getElem_cons_succ, List.getElem_cons_zero, List.setIfInBounds_toArray, List.set_cons_zero, List.set_cons_succ]
      refine wpAnyH_ready (rs := [12]) (by kernel_rfl) (by simp) ?_
      refine AllReadyH.cons rfl (fun K hK => ?_) AllReadyH.nil
      go_simp
      refine (highestPlace_any h HO.out _).mono ?_
      rintro e w5 ⟨rfl, hb⟩
      have F0 : Hid (HAt w5 w.heap.size h) := F0.out.below hb F0.out.lt
      have F1 : Hid (SW w5 (w.heap.size + 1) s) := F1.out.below hb F1.out.lt
      have F2 : Hid (JW w5 (w.heap.size + 2) p) := F2.out.below hb F2.out.lt
      have FB : Hid (Below w.heap.size w w5) := FB.out.trans (hb.mono FB.out.size)
      obtain ⟨x0_0, x0_1, x0_2, x0_3, x0_4, x0_5, x0_6, x0_7, x0_8, x0_9, x0_10, x0_11⟩ := F0.out
      obtain ⟨x1_0, x1_1, x1_2, x1_3, x1_4, x1_5, y1_0, y1_1, y1_2, y1_3, y1_4, y1_5⟩ := F1.out
      obtain ⟨x2_0, x2_1, x2_2, x2_3, x2_4, x2_5, y2_0, y2_1, y2_2, y2_3, y2_4, y2_5⟩ := F2.out
      clear hb
      try go_wp2_with fail
      refine hK.out _ _ (by (try dsimp only); go_keep) (fun hHeld => ?_)
      clear hK K
      try simp only [Act.put, List.getElem_toArray, List.getElem_cons_succ, List.getElem_cons_zero, List.setIfInBounds_toArray, List.set_cons_zero, List.set_cons_succ]
      refine tkz 13 rfl ?_
      refine tkz 14 rfl ?_
      refine tkz 15 rfl ?_
      refine tbz 16 rfl ?_
      refine tbz 17 rfl ?_
      refine tbz 18 rfl ?_
      refine tbz 19 rfl ?_
      refine tbz 20 rfl ?_
      refine tbz 21 rfl ?_
      refine tbz 22 rfl ?_
      refine tbz 23 rfl ?_
      refine tbz 24 rfl ?_
      refine tkz 25 rfl ?_
      refine tkz 26 rfl ?_
      refine wpAnyH_done (by kernel_rfl) ?_ _
      go_wp2
      go_ret
      exact ⟨ret_bool (by rw [HE.out, n1, n2]; rfl), FB.out⟩
    | true =>
      refine wp_region_held_drew (S := (fun w'' => w''.cell? ⟨w.heap.size, 0, none⟩ = some (.int .i64 h.fl) ∧ w''.cell? ⟨w.heap.size, 1, none⟩ = some (.int .i64 h.gp) ∧ w''.cell? ⟨w.heap.size, 2, none⟩ = some (.int .i64 h.ln) ∧ w''.cell? ⟨w.heap.size, 3, none⟩ = some (.int .i64 h.rf) ∧ w''.cell? ⟨w.heap.size, 4, none⟩ = some (.int .i64 h.sp) ∧ w''.cell? ⟨w.heap.size, 5, none⟩ = some (.int .i64 h.pu) ∧ w''.cell? ⟨w.heap.size, 6, none⟩ = some (.int .i64 h.br) ∧ w''.cell? ⟨w.heap.size, 7, none⟩ = some (.int .i64 h.dr) ∧ w''.cell? ⟨w.heap.size, 8, none⟩ = some (.int .i64 h.lv) ∧ w''.cell? ⟨w.heap.size, 9, none⟩ = some (.int .i64 h.dO) ∧ w''.cell? ⟨w.heap.size, 10, none⟩ = some (.int .i64 h.ld) ∧ w''.cell? ⟨w.heap.size, 11, none⟩ = some (.int .i64 h.qu) ∧ w''.cell? ⟨(w.heap.size + 1), 0, none⟩ = some (.int .i64 s.lo.pos) ∧ w''.cell? ⟨(w.heap.size + 1), 1, none⟩ = some (.int .i64 s.lo.vel) ∧ w''.cell? ⟨(w.heap.size + 1), 2, none⟩ = some (.int .i64 s.lo.door) ∧ w''.cell? ⟨(w.heap.size + 1), 3, none⟩ = some (.int .i64 s.up.pos) ∧ w''.cell? ⟨(w.heap.size + 1), 4, none⟩ = some (.int .i64 s.up.vel) ∧ w''.cell? ⟨(w.heap.size + 1), 5, none⟩ = some (.int .i64 s.up.door) ∧ w''.cell? ⟨(w.heap.size + 2), 0, none⟩ = some (.int .i64 p.a.push) ∧ w''.cell? ⟨(w.heap.size + 2), 1, none⟩ = some (.bool p.a.brk) ∧ w''.cell? ⟨(w.heap.size + 2), 2, none⟩ = some (.bool p.a.opn) ∧ w''.cell? ⟨(w.heap.size + 2), 3, none⟩ = some (.int .i64 p.b.push) ∧ w''.cell? ⟨(w.heap.size + 2), 4, none⟩ = some (.bool p.b.brk) ∧ w''.cell? ⟨(w.heap.size + 2), 5, none⟩ = some (.bool p.b.opn))) (by kernel_rfl) (by (try dsimp only); first | exact ⟨x0_0, x0_1, x0_2, x0_3, x0_4, x0_5, x0_6, x0_7, x0_8, x0_9, x0_10, x0_11, x1_0, x1_1, x1_2, x1_3, x1_4, x1_5, x2_0, x2_1, x2_2, x2_3, x2_4, x2_5⟩ | go_keep) (fun hHeld => ?_)
      refine tkz 0 rfl ?_
      refine tkz 1 rfl ?_
      refine tkz 2 rfl ?_
      refine tkz 3 rfl ?_
      refine tkz 4 rfl ?_
      refine tkz 5 rfl ?_
      refine tkz 6 rfl ?_
      refine tkz 7 rfl ?_
      refine tkz 8 rfl ?_
      refine tkz 9 rfl ?_
      refine tkz 11 rfl ?_
      refine wpAnyH_ready (rs := [10]) (by kernel_rfl) (by simp) ?_
      refine AllReadyH.cons rfl (fun K hK => ?_) AllReadyH.nil
      go_simp
      refine (highestBehind_any h s.up p.b HU.out HB.out.1 HB.out.2 _).mono ?_
      rintro e w5 ⟨rfl, hb⟩
      have F0 : Hid (HAt w5 w.heap.size h) := F0.out.below hb F0.out.lt
      have F1 : Hid (SW w5 (w.heap.size + 1) s) := F1.out.below hb F1.out.lt
      have F2 : Hid (JW w5 (w.heap.size + 2) p) := F2.out.below hb F2.out.lt
      have FB : Hid (Below w.heap.size w w5) := FB.out.trans (hb.mono FB.out.size)
      obtain ⟨x0_0, x0_1, x0_2, x0_3, x0_4, x0_5, x0_6, x0_7, x0_8, x0_9, x0_10, x0_11⟩ := F0.out
      obtain ⟨x1_0, x1_1, x1_2, x1_3, x1_4, x1_5, y1_0, y1_1, y1_2, y1_3, y1_4, y1_5⟩ := F1.out
      obtain ⟨x2_0, x2_1, x2_2, x2_3, x2_4, x2_5, y2_0, y2_1, y2_2, y2_3, y2_4, y2_5⟩ := F2.out
      clear hb
      try go_wp2_with fail
      refine hK.out _ _ (by (try dsimp only); go_keep) (fun hHeld => ?_)
      clear hK K
      try simp only [Act.put, List.getElem_toArray, List.getElem_cons_succ, List.getElem_cons_zero, List.setIfInBounds_toArray, List.set_cons_zero, List.set_cons_succ]
      refine wpAnyH_ready (rs := [12]) (by kernel_rfl) (by simp) ?_
      refine AllReadyH.cons rfl (fun K hK => ?_) AllReadyH.nil
      go_simp
      refine (highestPlace_any h HO.out _).mono ?_
      rintro e w5 ⟨rfl, hb⟩
      have F0 : Hid (HAt w5 w.heap.size h) := F0.out.below hb F0.out.lt
      have F1 : Hid (SW w5 (w.heap.size + 1) s) := F1.out.below hb F1.out.lt
      have F2 : Hid (JW w5 (w.heap.size + 2) p) := F2.out.below hb F2.out.lt
      have FB : Hid (Below w.heap.size w w5) := FB.out.trans (hb.mono FB.out.size)
      obtain ⟨x0_0, x0_1, x0_2, x0_3, x0_4, x0_5, x0_6, x0_7, x0_8, x0_9, x0_10, x0_11⟩ := F0.out
      obtain ⟨x1_0, x1_1, x1_2, x1_3, x1_4, x1_5, y1_0, y1_1, y1_2, y1_3, y1_4, y1_5⟩ := F1.out
      obtain ⟨x2_0, x2_1, x2_2, x2_3, x2_4, x2_5, y2_0, y2_1, y2_2, y2_3, y2_4, y2_5⟩ := F2.out
      clear hb
      try go_wp2_with fail
      refine hK.out _ _ (by (try dsimp only); go_keep) (fun hHeld => ?_)
      clear hK K
      try simp only [Act.put, List.getElem_toArray, List.getElem_cons_succ, List.getElem_cons_zero, List.setIfInBounds_toArray, List.set_cons_zero, List.set_cons_succ]
      refine tkz 13 rfl ?_
      refine tkz 14 rfl ?_
      refine tkz 15 rfl ?_
      refine tkz 16 rfl ?_
      refine tkz 17 rfl ?_
      refine tkz 18 rfl ?_
      refine tkz 19 rfl ?_
      refine tkz 20 rfl ?_
      refine tkz 22 rfl ?_
      refine wpAnyH_ready (rs := [21]) (by kernel_rfl) (by simp) ?_
      refine AllReadyH.cons rfl (fun K hK => ?_) AllReadyH.nil
      go_simp
      refine (lowestBehind_any h s.lo p.a HL.out HA.out.1 HA.out.2 _).mono ?_
      rintro e w5 ⟨rfl, hb⟩
      have F0 : Hid (HAt w5 w.heap.size h) := F0.out.below hb F0.out.lt
      have F1 : Hid (SW w5 (w.heap.size + 1) s) := F1.out.below hb F1.out.lt
      have F2 : Hid (JW w5 (w.heap.size + 2) p) := F2.out.below hb F2.out.lt
      have FB : Hid (Below w.heap.size w w5) := FB.out.trans (hb.mono FB.out.size)
      obtain ⟨x0_0, x0_1, x0_2, x0_3, x0_4, x0_5, x0_6, x0_7, x0_8, x0_9, x0_10, x0_11⟩ := F0.out
      obtain ⟨x1_0, x1_1, x1_2, x1_3, x1_4, x1_5, y1_0, y1_1, y1_2, y1_3, y1_4, y1_5⟩ := F1.out
      obtain ⟨x2_0, x2_1, x2_2, x2_3, x2_4, x2_5, y2_0, y2_1, y2_2, y2_3, y2_4, y2_5⟩ := F2.out
      clear hb
      try go_wp2_with fail
      refine hK.out _ _ (by (try dsimp only); go_keep) (fun hHeld => ?_)
      clear hK K
      try simp only [Act.put, List.getElem_toArray, List.getElem_cons_succ, List.getElem_cons_zero, List.setIfInBounds_toArray, List.set_cons_zero, List.set_cons_succ]
      refine wpAnyH_ready (rs := [23]) (by kernel_rfl) (by simp) ?_
      refine AllReadyH.cons rfl (fun K hK => ?_) AllReadyH.nil
      go_simp
      refine (lowestPlace_any h HO.out _).mono ?_
      rintro e w5 ⟨rfl, hb⟩
      have F0 : Hid (HAt w5 w.heap.size h) := F0.out.below hb F0.out.lt
      have F1 : Hid (SW w5 (w.heap.size + 1) s) := F1.out.below hb F1.out.lt
      have F2 : Hid (JW w5 (w.heap.size + 2) p) := F2.out.below hb F2.out.lt
      have FB : Hid (Below w.heap.size w w5) := FB.out.trans (hb.mono FB.out.size)
      obtain ⟨x0_0, x0_1, x0_2, x0_3, x0_4, x0_5, x0_6, x0_7, x0_8, x0_9, x0_10, x0_11⟩ := F0.out
      obtain ⟨x1_0, x1_1, x1_2, x1_3, x1_4, x1_5, y1_0, y1_1, y1_2, y1_3, y1_4, y1_5⟩ := F1.out
      obtain ⟨x2_0, x2_1, x2_2, x2_3, x2_4, x2_5, y2_0, y2_1, y2_2, y2_3, y2_4, y2_5⟩ := F2.out
      clear hb
      try go_wp2_with fail
      refine hK.out _ _ (by (try dsimp only); go_keep) (fun hHeld => ?_)
      clear hK K
      try simp only [Act.put, List.getElem_toArray, List.getElem_cons_succ, List.getElem_cons_zero, List.setIfInBounds_toArray, List.set_cons_zero, List.set_cons_succ]
      refine tkz 24 rfl ?_
      refine tkz 25 rfl ?_
      refine tkz 26 rfl ?_
      refine wpAnyH_done (by kernel_rfl) ?_ _
      go_wp2
      go_ret
      exact ⟨ret_bool (by rw [HE.out, n1, n2]; rfl), FB.out⟩
end Go.Proofs.Ytclfdfcakmgffaa
