/-
  The program's guard: WorstHigh, WorstLow.
-/
import Derived.Test.YtclfdfcakmgffaaGuardG
import Derived.Test.YtclfdfcakmgffaaGuardE
namespace Go.Proofs.Ytclfdfcakmgffaa
open Go.RowKit Pl
set_option linter.unusedSimpArgs false
set_option linter.unusedVariables false

set_option maxRecDepth 20000 in
set_option maxHeartbeats 8000000 in
theorem ofCommand_car (h : Hs) (c : Cs) (x : Cm) (hk : h.car c ≠ 0) (k : Nat) (w : World) :
    Calls Try.prog 22 #[.agg #[.int .i64 h.fl, .int .i64 h.gp, .int .i64 h.ln, .int .i64 h.rf, .int .i64 h.sp, .int .i64 h.pu, .int .i64 h.br, .int .i64 h.dr, .int .i64 h.lv, .int .i64 h.dO, .int .i64 h.ld, .int .i64 h.qu], .agg #[.int .i64 c.pos, .int .i64 c.vel, .int .i64 c.door], .agg #[.int .i64 x.push, .bool x.brk, .bool x.opn], .func (.func k) #[] #[]] w (isAns w (h.car c) 0) := by
  have hn : (h.car c != 0) = true := by simpa using hk
  have F0 : Hid (HAt ((((w.alloc (.cells #[.int .i64 h.fl, .int .i64 h.gp, .int .i64 h.ln, .int .i64 h.rf, .int .i64 h.sp, .int .i64 h.pu, .int .i64 h.br, .int .i64 h.dr, .int .i64 h.lv, .int .i64 h.dO, .int .i64 h.ld, .int .i64 h.qu] 25)).alloc (.cells #[.int .i64 c.pos, .int .i64 c.vel, .int .i64 c.door] 27)).alloc (.cells #[.int .i64 x.push, .bool x.brk, .bool x.opn] 29)).alloc (.cells #[.int .i64 0, .int .i64 0] 33)).drew w.heap.size h) := ((((HAt.at_ w h _ _ (by simp)).alloc _).alloc _).alloc _).drew
  have F1 : Hid (CW ((((w.alloc (.cells #[.int .i64 h.fl, .int .i64 h.gp, .int .i64 h.ln, .int .i64 h.rf, .int .i64 h.sp, .int .i64 h.pu, .int .i64 h.br, .int .i64 h.dr, .int .i64 h.lv, .int .i64 h.dO, .int .i64 h.ld, .int .i64 h.qu] 25)).alloc (.cells #[.int .i64 c.pos, .int .i64 c.vel, .int .i64 c.door] 27)).alloc (.cells #[.int .i64 x.push, .bool x.brk, .bool x.opn] 29)).alloc (.cells #[.int .i64 0, .int .i64 0] 33)).drew (w.heap.size + 1) c) := (((CW.at_ (w.alloc (.cells #[.int .i64 h.fl, .int .i64 h.gp, .int .i64 h.ln, .int .i64 h.rf, .int .i64 h.sp, .int .i64 h.pu, .int .i64 h.br, .int .i64 h.dr, .int .i64 h.lv, .int .i64 h.dO, .int .i64 h.ld, .int .i64 h.qu] 25)) c _ _ (by simp)).alloc _).alloc _).drew
  have F2 : Hid (XW ((((w.alloc (.cells #[.int .i64 h.fl, .int .i64 h.gp, .int .i64 h.ln, .int .i64 h.rf, .int .i64 h.sp, .int .i64 h.pu, .int .i64 h.br, .int .i64 h.dr, .int .i64 h.lv, .int .i64 h.dO, .int .i64 h.ld, .int .i64 h.qu] 25)).alloc (.cells #[.int .i64 c.pos, .int .i64 c.vel, .int .i64 c.door] 27)).alloc (.cells #[.int .i64 x.push, .bool x.brk, .bool x.opn] 29)).alloc (.cells #[.int .i64 0, .int .i64 0] 33)).drew (w.heap.size + 2) x) := ((XW.at_ ((w.alloc (.cells #[.int .i64 h.fl, .int .i64 h.gp, .int .i64 h.ln, .int .i64 h.rf, .int .i64 h.sp, .int .i64 h.pu, .int .i64 h.br, .int .i64 h.dr, .int .i64 h.lv, .int .i64 h.dO, .int .i64 h.ld, .int .i64 h.qu] 25)).alloc (.cells #[.int .i64 c.pos, .int .i64 c.vel, .int .i64 c.door] 27)) x _ _ (by simp)).alloc _).drew
  have F3 : Hid (R2 ((((w.alloc (.cells #[.int .i64 h.fl, .int .i64 h.gp, .int .i64 h.ln, .int .i64 h.rf, .int .i64 h.sp, .int .i64 h.pu, .int .i64 h.br, .int .i64 h.dr, .int .i64 h.lv, .int .i64 h.dO, .int .i64 h.ld, .int .i64 h.qu] 25)).alloc (.cells #[.int .i64 c.pos, .int .i64 c.vel, .int .i64 c.door] 27)).alloc (.cells #[.int .i64 x.push, .bool x.brk, .bool x.opn] 29)).alloc (.cells #[.int .i64 0, .int .i64 0] 33)).drew (w.heap.size + 3)) := (R2.at_ (((w.alloc (.cells #[.int .i64 h.fl, .int .i64 h.gp, .int .i64 h.ln, .int .i64 h.rf, .int .i64 h.sp, .int .i64 h.pu, .int .i64 h.br, .int .i64 h.dr, .int .i64 h.lv, .int .i64 h.dO, .int .i64 h.ld, .int .i64 h.qu] 25)).alloc (.cells #[.int .i64 c.pos, .int .i64 c.vel, .int .i64 c.door] 27)).alloc (.cells #[.int .i64 x.push, .bool x.brk, .bool x.opn] 29)) _ _ (by simp)).drew
  have FB : Hid (Below w.heap.size w ((((w.alloc (.cells #[.int .i64 h.fl, .int .i64 h.gp, .int .i64 h.ln, .int .i64 h.rf, .int .i64 h.sp, .int .i64 h.pu, .int .i64 h.br, .int .i64 h.dr, .int .i64 h.lv, .int .i64 h.dO, .int .i64 h.ld, .int .i64 h.qu] 25)).alloc (.cells #[.int .i64 c.pos, .int .i64 c.vel, .int .i64 c.door] 27)).alloc (.cells #[.int .i64 x.push, .bool x.brk, .bool x.opn] 29)).alloc (.cells #[.int .i64 0, .int .i64 0] 33)).drew) := (((((Below.refl _ _).alloc (Nat.le_refl _) _).alloc (by simp <;> omega) _).alloc (by simp <;> omega) _).alloc (by simp <;> omega) _).drew
  obtain ⟨x0_0, x0_1, x0_2, x0_3, x0_4, x0_5, x0_6, x0_7, x0_8, x0_9, x0_10, x0_11⟩ := F0.out
  obtain ⟨x1_0, x1_1, x1_2, y1_0, y1_1, y1_2⟩ := F1.out
  obtain ⟨x2_0, x2_1, x2_2, y2_0, y2_1, y2_2⟩ := F2.out
  obtain ⟨x3_0, x3_1, y3_0, y3_1⟩ := F3.out
  go_enter Try.func22, Try.ntmps22
  go_wp2_with fail
  refine wp_region_held_drew (S := (fun w'' => w''.cell? ⟨w.heap.size, 0, none⟩ = some (.int .i64 h.fl) ∧ w''.cell? ⟨w.heap.size, 1, none⟩ = some (.int .i64 h.gp) ∧ w''.cell? ⟨w.heap.size, 2, none⟩ = some (.int .i64 h.ln) ∧ w''.cell? ⟨w.heap.size, 3, none⟩ = some (.int .i64 h.rf) ∧ w''.cell? ⟨w.heap.size, 4, none⟩ = some (.int .i64 h.sp) ∧ w''.cell? ⟨w.heap.size, 5, none⟩ = some (.int .i64 h.pu) ∧ w''.cell? ⟨w.heap.size, 6, none⟩ = some (.int .i64 h.br) ∧ w''.cell? ⟨w.heap.size, 7, none⟩ = some (.int .i64 h.dr) ∧ w''.cell? ⟨w.heap.size, 8, none⟩ = some (.int .i64 h.lv) ∧ w''.cell? ⟨w.heap.size, 9, none⟩ = some (.int .i64 h.dO) ∧ w''.cell? ⟨w.heap.size, 10, none⟩ = some (.int .i64 h.ld) ∧ w''.cell? ⟨w.heap.size, 11, none⟩ = some (.int .i64 h.qu) ∧ w''.cell? ⟨(w.heap.size + 1), 0, none⟩ = some (.int .i64 c.pos) ∧ w''.cell? ⟨(w.heap.size + 1), 1, none⟩ = some (.int .i64 c.vel) ∧ w''.cell? ⟨(w.heap.size + 1), 2, none⟩ = some (.int .i64 c.door) ∧ w''.cell? ⟨(w.heap.size + 2), 0, none⟩ = some (.int .i64 x.push) ∧ w''.cell? ⟨(w.heap.size + 2), 1, none⟩ = some (.bool x.brk) ∧ w''.cell? ⟨(w.heap.size + 2), 2, none⟩ = some (.bool x.opn))) (by kernel_rfl) (by (try dsimp only); first | exact ⟨x0_0, x0_1, x0_2, x0_3, x0_4, x0_5, x0_6, x0_7, x0_8, x0_9, x0_10, x0_11, x1_0, x1_1, x1_2, x2_0, x2_1, x2_2⟩ | go_keep) (fun hHeld => ?_)
  refine tkz 0 rfl ?_
  refine tkz 1 rfl ?_
  refine tkz 3 rfl ?_
  refine tkz 4 rfl ?_
  refine wpAnyH_ready (rs := [2]) (by kernel_rfl) (by simp) ?_
  refine AllReadyH.cons rfl (fun K hK => ?_) AllReadyH.nil
  go_simp
  refine (implCarFault_any h c _).mono ?_
  rintro e w1 ⟨rfl, hb⟩
  have F0 : Hid (HAt w1 w.heap.size h) := F0.out.below hb F0.out.lt
  have F1 : Hid (CW w1 (w.heap.size + 1) c) := F1.out.below hb F1.out.lt
  have F2 : Hid (XW w1 (w.heap.size + 2) x) := F2.out.below hb F2.out.lt
  have F3 : Hid (R2 w1 (w.heap.size + 3)) := F3.out.below hb F3.out.lt
  have FB : Hid (Below w.heap.size w w1) := FB.out.trans (hb.mono FB.out.size)
  obtain ⟨x0_0, x0_1, x0_2, x0_3, x0_4, x0_5, x0_6, x0_7, x0_8, x0_9, x0_10, x0_11⟩ := F0.out
  obtain ⟨x1_0, x1_1, x1_2, y1_0, y1_1, y1_2⟩ := F1.out
  obtain ⟨x2_0, x2_1, x2_2, y2_0, y2_1, y2_2⟩ := F2.out
  obtain ⟨x3_0, x3_1, y3_0, y3_1⟩ := F3.out
  clear hb
  try go_wp2_with fail
  refine hK.out _ _ (by (try dsimp only); go_keep) (fun hHeld => ?_)
  clear hK K
  try simp only [Act.put, List.getElem_toArray, List.getElem_cons_succ, List.getElem_cons_zero, List.setIfInBounds_toArray, List.set_cons_zero, List.set_cons_succ]
  refine wpAnyH_ready (rs := [5]) (by kernel_rfl) (by simp) ?_
  refine AllReadyH.cons rfl (fun K hK => ?_) AllReadyH.nil
  go_simp
  refine (implCommandFault_any h x _).mono ?_
  rintro e w2 ⟨rfl, hb⟩
  have F0 : Hid (HAt w2 w.heap.size h) := F0.out.below hb F0.out.lt
  have F1 : Hid (CW w2 (w.heap.size + 1) c) := F1.out.below hb F1.out.lt
  have F2 : Hid (XW w2 (w.heap.size + 2) x) := F2.out.below hb F2.out.lt
  have F3 : Hid (R2 w2 (w.heap.size + 3)) := F3.out.below hb F3.out.lt
  have FB : Hid (Below w.heap.size w w2) := FB.out.trans (hb.mono FB.out.size)
  obtain ⟨x0_0, x0_1, x0_2, x0_3, x0_4, x0_5, x0_6, x0_7, x0_8, x0_9, x0_10, x0_11⟩ := F0.out
  obtain ⟨x1_0, x1_1, x1_2, y1_0, y1_1, y1_2⟩ := F1.out
  obtain ⟨x2_0, x2_1, x2_2, y2_0, y2_1, y2_2⟩ := F2.out
  obtain ⟨x3_0, x3_1, y3_0, y3_1⟩ := F3.out
  clear hb
  try go_wp2_with fail
  refine hK.out _ _ (by (try dsimp only); go_keep) (fun hHeld => ?_)
  clear hK K
  try simp only [Act.put, List.getElem_toArray, List.getElem_cons_succ, List.getElem_cons_zero, List.setIfInBounds_toArray, List.set_cons_zero, List.set_cons_succ]
  refine wpAnyH_ready (rs := [6]) (by kernel_rfl) (by simp) ?_
  refine AllReadyH.cons rfl (fun K hK => ?_) AllReadyH.nil
  go_simp
  have F0 : Hid (HAt (w2.alloc (.cells #[.int .i64 (h.car c), .int .i64 (h.cmd x)] 2)) w.heap.size h) := F0.out.alloc _
  have F1 : Hid (CW (w2.alloc (.cells #[.int .i64 (h.car c), .int .i64 (h.cmd x)] 2)) (w.heap.size + 1) c) := F1.out.alloc _
  have F2 : Hid (XW (w2.alloc (.cells #[.int .i64 (h.car c), .int .i64 (h.cmd x)] 2)) (w.heap.size + 2) x) := F2.out.alloc _
  have F3 : Hid (R2 (w2.alloc (.cells #[.int .i64 (h.car c), .int .i64 (h.cmd x)] 2)) (w.heap.size + 3)) := F3.out.alloc _
  have FB : Hid (Below w.heap.size w (w2.alloc (.cells #[.int .i64 (h.car c), .int .i64 (h.cmd x)] 2))) := FB.out.alloc FB.out.size _
  obtain ⟨x0_0, x0_1, x0_2, x0_3, x0_4, x0_5, x0_6, x0_7, x0_8, x0_9, x0_10, x0_11⟩ := F0.out
  obtain ⟨x1_0, x1_1, x1_2, y1_0, y1_1, y1_2⟩ := F1.out
  obtain ⟨x2_0, x2_1, x2_2, y2_0, y2_1, y2_2⟩ := F2.out
  obtain ⟨x3_0, x3_1, y3_0, y3_1⟩ := F3.out
  refine hK.out _ _ (by (try dsimp only); go_keep) (fun hHeld => ?_)
  clear hK K
  try simp only [Act.put, List.getElem_toArray, List.getElem_cons_succ, List.getElem_cons_zero, List.setIfInBounds_toArray, List.set_cons_zero, List.set_cons_succ]
  refine wpAnyH_ready (rs := [7]) (by kernel_rfl) (by simp) ?_
  refine AllReadyH.cons rfl (fun K hK => ?_) AllReadyH.nil
  go_simp
  refine (or_first (h.car c) (h.cmd x) hk _ _ (by simp) (by simp)).mono ?_
  rintro e w' ⟨rfl, hw⟩
  obtain rfl := hw.symm
  clear hw
  try go_wp2_with fail
  refine hK.out _ _ (by (try dsimp only); go_keep) (fun hHeld => ?_)
  clear hK K
  try simp only [Act.put, List.getElem_toArray, List.getElem_cons_succ, List.getElem_cons_zero, List.setIfInBounds_toArray, List.set_cons_zero, List.set_cons_succ]
  refine tkz 8 rfl ?_
  refine wpAnyH_done (by kernel_rfl) ?_ _
  obtain ⟨w4, hw4⟩ : ∃ w4, w4 = w2.alloc (.cells #[.int .i64 (h.car c), .int .i64 (h.cmd x)] 2) := ⟨_, rfl⟩
  have F0 : Hid (HAt w4 w.heap.size h) := by rw [hw4]; exact F0.out
  have F1 : Hid (CW w4 (w.heap.size + 1) c) := by rw [hw4]; exact F1.out
  have F2 : Hid (XW w4 (w.heap.size + 2) x) := by rw [hw4]; exact F2.out
  have F3 : Hid (R2 w4 (w.heap.size + 3)) := by rw [hw4]; exact F3.out
  have FB : Hid (Below w.heap.size w w4) := by rw [hw4]; exact FB.out
  rw [← hw4]
  clear hw4
  obtain ⟨x0_0, x0_1, x0_2, x0_3, x0_4, x0_5, x0_6, x0_7, x0_8, x0_9, x0_10, x0_11⟩ := F0.out
  obtain ⟨x1_0, x1_1, x1_2, y1_0, y1_1, y1_2⟩ := F1.out
  obtain ⟨x2_0, x2_1, x2_2, y2_0, y2_1, y2_2⟩ := F2.out
  obtain ⟨x3_0, x3_1, y3_0, y3_1⟩ := F3.out
  go_wp2
  exact bodyPost_ret (v := .agg #[.int .i64 (h.car c), .int .i64 0]) (by simp [results, Try.results22, go_sem, x3_0, x3_1]) rfl ⟨rfl, by repeat (first | exact FB.out | (refine Below.setCell ?_ (by simp <;> omega) _))⟩
set_option maxRecDepth 20000 in
set_option maxHeartbeats 8000000 in
theorem ofCommand_cmd (h : Hs) (c : Cs) (x : Cm) (hk : h.car c = 0) (hx : h.cmd x ≠ 0) (k : Nat) (w : World) :
    Calls Try.prog 22 #[.agg #[.int .i64 h.fl, .int .i64 h.gp, .int .i64 h.ln, .int .i64 h.rf, .int .i64 h.sp, .int .i64 h.pu, .int .i64 h.br, .int .i64 h.dr, .int .i64 h.lv, .int .i64 h.dO, .int .i64 h.ld, .int .i64 h.qu], .agg #[.int .i64 c.pos, .int .i64 c.vel, .int .i64 c.door], .agg #[.int .i64 x.push, .bool x.brk, .bool x.opn], .func (.func k) #[] #[]] w (isAns w (h.cmd x) 0) := by
  have hn : (h.cmd x != 0) = true := by simpa using hx
  clear hx
  have F0 : Hid (HAt ((((w.alloc (.cells #[.int .i64 h.fl, .int .i64 h.gp, .int .i64 h.ln, .int .i64 h.rf, .int .i64 h.sp, .int .i64 h.pu, .int .i64 h.br, .int .i64 h.dr, .int .i64 h.lv, .int .i64 h.dO, .int .i64 h.ld, .int .i64 h.qu] 25)).alloc (.cells #[.int .i64 c.pos, .int .i64 c.vel, .int .i64 c.door] 27)).alloc (.cells #[.int .i64 x.push, .bool x.brk, .bool x.opn] 29)).alloc (.cells #[.int .i64 0, .int .i64 0] 33)).drew w.heap.size h) := ((((HAt.at_ w h _ _ (by simp)).alloc _).alloc _).alloc _).drew
  have F1 : Hid (CW ((((w.alloc (.cells #[.int .i64 h.fl, .int .i64 h.gp, .int .i64 h.ln, .int .i64 h.rf, .int .i64 h.sp, .int .i64 h.pu, .int .i64 h.br, .int .i64 h.dr, .int .i64 h.lv, .int .i64 h.dO, .int .i64 h.ld, .int .i64 h.qu] 25)).alloc (.cells #[.int .i64 c.pos, .int .i64 c.vel, .int .i64 c.door] 27)).alloc (.cells #[.int .i64 x.push, .bool x.brk, .bool x.opn] 29)).alloc (.cells #[.int .i64 0, .int .i64 0] 33)).drew (w.heap.size + 1) c) := (((CW.at_ (w.alloc (.cells #[.int .i64 h.fl, .int .i64 h.gp, .int .i64 h.ln, .int .i64 h.rf, .int .i64 h.sp, .int .i64 h.pu, .int .i64 h.br, .int .i64 h.dr, .int .i64 h.lv, .int .i64 h.dO, .int .i64 h.ld, .int .i64 h.qu] 25)) c _ _ (by simp)).alloc _).alloc _).drew
  have F2 : Hid (XW ((((w.alloc (.cells #[.int .i64 h.fl, .int .i64 h.gp, .int .i64 h.ln, .int .i64 h.rf, .int .i64 h.sp, .int .i64 h.pu, .int .i64 h.br, .int .i64 h.dr, .int .i64 h.lv, .int .i64 h.dO, .int .i64 h.ld, .int .i64 h.qu] 25)).alloc (.cells #[.int .i64 c.pos, .int .i64 c.vel, .int .i64 c.door] 27)).alloc (.cells #[.int .i64 x.push, .bool x.brk, .bool x.opn] 29)).alloc (.cells #[.int .i64 0, .int .i64 0] 33)).drew (w.heap.size + 2) x) := ((XW.at_ ((w.alloc (.cells #[.int .i64 h.fl, .int .i64 h.gp, .int .i64 h.ln, .int .i64 h.rf, .int .i64 h.sp, .int .i64 h.pu, .int .i64 h.br, .int .i64 h.dr, .int .i64 h.lv, .int .i64 h.dO, .int .i64 h.ld, .int .i64 h.qu] 25)).alloc (.cells #[.int .i64 c.pos, .int .i64 c.vel, .int .i64 c.door] 27)) x _ _ (by simp)).alloc _).drew
  have F3 : Hid (R2 ((((w.alloc (.cells #[.int .i64 h.fl, .int .i64 h.gp, .int .i64 h.ln, .int .i64 h.rf, .int .i64 h.sp, .int .i64 h.pu, .int .i64 h.br, .int .i64 h.dr, .int .i64 h.lv, .int .i64 h.dO, .int .i64 h.ld, .int .i64 h.qu] 25)).alloc (.cells #[.int .i64 c.pos, .int .i64 c.vel, .int .i64 c.door] 27)).alloc (.cells #[.int .i64 x.push, .bool x.brk, .bool x.opn] 29)).alloc (.cells #[.int .i64 0, .int .i64 0] 33)).drew (w.heap.size + 3)) := (R2.at_ (((w.alloc (.cells #[.int .i64 h.fl, .int .i64 h.gp, .int .i64 h.ln, .int .i64 h.rf, .int .i64 h.sp, .int .i64 h.pu, .int .i64 h.br, .int .i64 h.dr, .int .i64 h.lv, .int .i64 h.dO, .int .i64 h.ld, .int .i64 h.qu] 25)).alloc (.cells #[.int .i64 c.pos, .int .i64 c.vel, .int .i64 c.door] 27)).alloc (.cells #[.int .i64 x.push, .bool x.brk, .bool x.opn] 29)) _ _ (by simp)).drew
  have FB : Hid (Below w.heap.size w ((((w.alloc (.cells #[.int .i64 h.fl, .int .i64 h.gp, .int .i64 h.ln, .int .i64 h.rf, .int .i64 h.sp, .int .i64 h.pu, .int .i64 h.br, .int .i64 h.dr, .int .i64 h.lv, .int .i64 h.dO, .int .i64 h.ld, .int .i64 h.qu] 25)).alloc (.cells #[.int .i64 c.pos, .int .i64 c.vel, .int .i64 c.door] 27)).alloc (.cells #[.int .i64 x.push, .bool x.brk, .bool x.opn] 29)).alloc (.cells #[.int .i64 0, .int .i64 0] 33)).drew) := (((((Below.refl _ _).alloc (Nat.le_refl _) _).alloc (by simp <;> omega) _).alloc (by simp <;> omega) _).alloc (by simp <;> omega) _).drew
  obtain ⟨x0_0, x0_1, x0_2, x0_3, x0_4, x0_5, x0_6, x0_7, x0_8, x0_9, x0_10, x0_11⟩ := F0.out
  obtain ⟨x1_0, x1_1, x1_2, y1_0, y1_1, y1_2⟩ := F1.out
  obtain ⟨x2_0, x2_1, x2_2, y2_0, y2_1, y2_2⟩ := F2.out
  obtain ⟨x3_0, x3_1, y3_0, y3_1⟩ := F3.out
  go_enter Try.func22, Try.ntmps22
  go_wp2_with fail
  refine wp_region_held_drew (S := (fun w'' => w''.cell? ⟨w.heap.size, 0, none⟩ = some (.int .i64 h.fl) ∧ w''.cell? ⟨w.heap.size, 1, none⟩ = some (.int .i64 h.gp) ∧ w''.cell? ⟨w.heap.size, 2, none⟩ = some (.int .i64 h.ln) ∧ w''.cell? ⟨w.heap.size, 3, none⟩ = some (.int .i64 h.rf) ∧ w''.cell? ⟨w.heap.size, 4, none⟩ = some (.int .i64 h.sp) ∧ w''.cell? ⟨w.heap.size, 5, none⟩ = some (.int .i64 h.pu) ∧ w''.cell? ⟨w.heap.size, 6, none⟩ = some (.int .i64 h.br) ∧ w''.cell? ⟨w.heap.size, 7, none⟩ = some (.int .i64 h.dr) ∧ w''.cell? ⟨w.heap.size, 8, none⟩ = some (.int .i64 h.lv) ∧ w''.cell? ⟨w.heap.size, 9, none⟩ = some (.int .i64 h.dO) ∧ w''.cell? ⟨w.heap.size, 10, none⟩ = some (.int .i64 h.ld) ∧ w''.cell? ⟨w.heap.size, 11, none⟩ = some (.int .i64 h.qu) ∧ w''.cell? ⟨(w.heap.size + 1), 0, none⟩ = some (.int .i64 c.pos) ∧ w''.cell? ⟨(w.heap.size + 1), 1, none⟩ = some (.int .i64 c.vel) ∧ w''.cell? ⟨(w.heap.size + 1), 2, none⟩ = some (.int .i64 c.door) ∧ w''.cell? ⟨(w.heap.size + 2), 0, none⟩ = some (.int .i64 x.push) ∧ w''.cell? ⟨(w.heap.size + 2), 1, none⟩ = some (.bool x.brk) ∧ w''.cell? ⟨(w.heap.size + 2), 2, none⟩ = some (.bool x.opn))) (by kernel_rfl) (by (try dsimp only); first | exact ⟨x0_0, x0_1, x0_2, x0_3, x0_4, x0_5, x0_6, x0_7, x0_8, x0_9, x0_10, x0_11, x1_0, x1_1, x1_2, x2_0, x2_1, x2_2⟩ | go_keep) (fun hHeld => ?_)
  refine tkz 0 rfl ?_
  refine tkz 1 rfl ?_
  refine tkz 3 rfl ?_
  refine tkz 4 rfl ?_
  refine wpAnyH_ready (rs := [2]) (by kernel_rfl) (by simp) ?_
  refine AllReadyH.cons rfl (fun K hK => ?_) AllReadyH.nil
  go_simp
  refine (implCarFault_any h c _).mono ?_
  rw [hk]
  rintro e w1 ⟨rfl, hb⟩
  have F0 : Hid (HAt w1 w.heap.size h) := F0.out.below hb F0.out.lt
  have F1 : Hid (CW w1 (w.heap.size + 1) c) := F1.out.below hb F1.out.lt
  have F2 : Hid (XW w1 (w.heap.size + 2) x) := F2.out.below hb F2.out.lt
  have F3 : Hid (R2 w1 (w.heap.size + 3)) := F3.out.below hb F3.out.lt
  have FB : Hid (Below w.heap.size w w1) := FB.out.trans (hb.mono FB.out.size)
  obtain ⟨x0_0, x0_1, x0_2, x0_3, x0_4, x0_5, x0_6, x0_7, x0_8, x0_9, x0_10, x0_11⟩ := F0.out
  obtain ⟨x1_0, x1_1, x1_2, y1_0, y1_1, y1_2⟩ := F1.out
  obtain ⟨x2_0, x2_1, x2_2, y2_0, y2_1, y2_2⟩ := F2.out
  obtain ⟨x3_0, x3_1, y3_0, y3_1⟩ := F3.out
  clear hb
  try go_wp2_with fail
  refine hK.out _ _ (by (try dsimp only); go_keep) (fun hHeld => ?_)
  clear hK K
  try simp only [Act.put, List.getElem_toArray, List.getElem_cons_succ, List.getElem_cons_zero, List.setIfInBounds_toArray, List.set_cons_zero, List.set_cons_succ]
  refine wpAnyH_ready (rs := [5]) (by kernel_rfl) (by simp) ?_
  refine AllReadyH.cons rfl (fun K hK => ?_) AllReadyH.nil
  go_simp
  refine (implCommandFault_any h x _).mono ?_
  rintro e w2 ⟨rfl, hb⟩
  have F0 : Hid (HAt w2 w.heap.size h) := F0.out.below hb F0.out.lt
  have F1 : Hid (CW w2 (w.heap.size + 1) c) := F1.out.below hb F1.out.lt
  have F2 : Hid (XW w2 (w.heap.size + 2) x) := F2.out.below hb F2.out.lt
  have F3 : Hid (R2 w2 (w.heap.size + 3)) := F3.out.below hb F3.out.lt
  have FB : Hid (Below w.heap.size w w2) := FB.out.trans (hb.mono FB.out.size)
  obtain ⟨x0_0, x0_1, x0_2, x0_3, x0_4, x0_5, x0_6, x0_7, x0_8, x0_9, x0_10, x0_11⟩ := F0.out
  obtain ⟨x1_0, x1_1, x1_2, y1_0, y1_1, y1_2⟩ := F1.out
  obtain ⟨x2_0, x2_1, x2_2, y2_0, y2_1, y2_2⟩ := F2.out
  obtain ⟨x3_0, x3_1, y3_0, y3_1⟩ := F3.out
  clear hb
  try go_wp2_with fail
  refine hK.out _ _ (by (try dsimp only); go_keep) (fun hHeld => ?_)
  clear hK K
  try simp only [Act.put, List.getElem_toArray, List.getElem_cons_succ, List.getElem_cons_zero, List.setIfInBounds_toArray, List.set_cons_zero, List.set_cons_succ]
  refine wpAnyH_ready (rs := [6]) (by kernel_rfl) (by simp) ?_
  refine AllReadyH.cons rfl (fun K hK => ?_) AllReadyH.nil
  go_simp
  have F0 : Hid (HAt (w2.alloc (.cells #[.int .i64 0, .int .i64 (h.cmd x)] 2)) w.heap.size h) := F0.out.alloc _
  have F1 : Hid (CW (w2.alloc (.cells #[.int .i64 0, .int .i64 (h.cmd x)] 2)) (w.heap.size + 1) c) := F1.out.alloc _
  have F2 : Hid (XW (w2.alloc (.cells #[.int .i64 0, .int .i64 (h.cmd x)] 2)) (w.heap.size + 2) x) := F2.out.alloc _
  have F3 : Hid (R2 (w2.alloc (.cells #[.int .i64 0, .int .i64 (h.cmd x)] 2)) (w.heap.size + 3)) := F3.out.alloc _
  have FB : Hid (Below w.heap.size w (w2.alloc (.cells #[.int .i64 0, .int .i64 (h.cmd x)] 2))) := FB.out.alloc FB.out.size _
  obtain ⟨x0_0, x0_1, x0_2, x0_3, x0_4, x0_5, x0_6, x0_7, x0_8, x0_9, x0_10, x0_11⟩ := F0.out
  obtain ⟨x1_0, x1_1, x1_2, y1_0, y1_1, y1_2⟩ := F1.out
  obtain ⟨x2_0, x2_1, x2_2, y2_0, y2_1, y2_2⟩ := F2.out
  obtain ⟨x3_0, x3_1, y3_0, y3_1⟩ := F3.out
  refine hK.out _ _ (by (try dsimp only); go_keep) (fun hHeld => ?_)
  clear hK K
  try simp only [Act.put, List.getElem_toArray, List.getElem_cons_succ, List.getElem_cons_zero, List.setIfInBounds_toArray, List.set_cons_zero, List.set_cons_succ]
  refine wpAnyH_ready (rs := [7]) (by kernel_rfl) (by simp) ?_
  refine AllReadyH.cons rfl (fun K hK => ?_) AllReadyH.nil
  go_simp
  refine (or_second 0 (h.cmd x) rfl _ _ (by simp) (by simp)).mono ?_
  rintro e w' ⟨rfl, hw⟩
  obtain rfl := hw.symm
  clear hw
  try go_wp2_with fail
  refine hK.out _ _ (by (try dsimp only); go_keep) (fun hHeld => ?_)
  clear hK K
  try simp only [Act.put, List.getElem_toArray, List.getElem_cons_succ, List.getElem_cons_zero, List.setIfInBounds_toArray, List.set_cons_zero, List.set_cons_succ]
  refine tkz 8 rfl ?_
  refine wpAnyH_done (by kernel_rfl) ?_ _
  obtain ⟨w4, hw4⟩ : ∃ w4, w4 = w2.alloc (.cells #[.int .i64 0, .int .i64 (h.cmd x)] 2) := ⟨_, rfl⟩
  have F0 : Hid (HAt w4 w.heap.size h) := by rw [hw4]; exact F0.out
  have F1 : Hid (CW w4 (w.heap.size + 1) c) := by rw [hw4]; exact F1.out
  have F2 : Hid (XW w4 (w.heap.size + 2) x) := by rw [hw4]; exact F2.out
  have F3 : Hid (R2 w4 (w.heap.size + 3)) := by rw [hw4]; exact F3.out
  have FB : Hid (Below w.heap.size w w4) := by rw [hw4]; exact FB.out
  rw [← hw4]
  clear hw4
  obtain ⟨x0_0, x0_1, x0_2, x0_3, x0_4, x0_5, x0_6, x0_7, x0_8, x0_9, x0_10, x0_11⟩ := F0.out
  obtain ⟨x1_0, x1_1, x1_2, y1_0, y1_1, y1_2⟩ := F1.out
  obtain ⟨x2_0, x2_1, x2_2, y2_0, y2_1, y2_2⟩ := F2.out
  obtain ⟨x3_0, x3_1, y3_0, y3_1⟩ := F3.out
  go_wp2
  exact bodyPost_ret (v := .agg #[.int .i64 (h.cmd x), .int .i64 0]) (by simp [results, Try.results22, go_sem, x3_0, x3_1]) rfl ⟨rfl, by repeat (first | exact FB.out | (refine Below.setCell ?_ (by simp <;> omega) _))⟩
set_option maxRecDepth 20000 in
set_option maxHeartbeats 8000000 in
theorem ofCommand_wh (h : Hs) (c : Cs) (x : Cm) (hk : h.car c = 0) (hx : h.cmd x = 0) (w : World) :
    Calls Try.prog 22 #[.agg #[.int .i64 h.fl, .int .i64 h.gp, .int .i64 h.ln, .int .i64 h.rf, .int .i64 h.sp, .int .i64 h.pu, .int .i64 h.br, .int .i64 h.dr, .int .i64 h.lv, .int .i64 h.dO, .int .i64 h.ld, .int .i64 h.qu], .agg #[.int .i64 c.pos, .int .i64 c.vel, .int .i64 c.door], .agg #[.int .i64 x.push, .bool x.brk, .bool x.opn], .func (.func 23) #[] #[]] w (isAns w 0 (Hs.wh h c x)) := by
  have k := Hs.car_zero hk
  have HK : Hid (CarOk h c) := k
  have HP : Hid (-h.pu ≤ x.push ∧ x.push ≤ h.pu) := cmd_push k.hf hx
  clear k
  have F0 : Hid (HAt ((((w.alloc (.cells #[.int .i64 h.fl, .int .i64 h.gp, .int .i64 h.ln, .int .i64 h.rf, .int .i64 h.sp, .int .i64 h.pu, .int .i64 h.br, .int .i64 h.dr, .int .i64 h.lv, .int .i64 h.dO, .int .i64 h.ld, .int .i64 h.qu] 25)).alloc (.cells #[.int .i64 c.pos, .int .i64 c.vel, .int .i64 c.door] 27)).alloc (.cells #[.int .i64 x.push, .bool x.brk, .bool x.opn] 29)).alloc (.cells #[.int .i64 0, .int .i64 0] 33)).drew w.heap.size h) := ((((HAt.at_ w h _ _ (by simp)).alloc _).alloc _).alloc _).drew
  have F1 : Hid (CW ((((w.alloc (.cells #[.int .i64 h.fl, .int .i64 h.gp, .int .i64 h.ln, .int .i64 h.rf, .int .i64 h.sp, .int .i64 h.pu, .int .i64 h.br, .int .i64 h.dr, .int .i64 h.lv, .int .i64 h.dO, .int .i64 h.ld, .int .i64 h.qu] 25)).alloc (.cells #[.int .i64 c.pos, .int .i64 c.vel, .int .i64 c.door] 27)).alloc (.cells #[.int .i64 x.push, .bool x.brk, .bool x.opn] 29)).alloc (.cells #[.int .i64 0, .int .i64 0] 33)).drew (w.heap.size + 1) c) := (((CW.at_ (w.alloc (.cells #[.int .i64 h.fl, .int .i64 h.gp, .int .i64 h.ln, .int .i64 h.rf, .int .i64 h.sp, .int .i64 h.pu, .int .i64 h.br, .int .i64 h.dr, .int .i64 h.lv, .int .i64 h.dO, .int .i64 h.ld, .int .i64 h.qu] 25)) c _ _ (by simp)).alloc _).alloc _).drew
  have F2 : Hid (XW ((((w.alloc (.cells #[.int .i64 h.fl, .int .i64 h.gp, .int .i64 h.ln, .int .i64 h.rf, .int .i64 h.sp, .int .i64 h.pu, .int .i64 h.br, .int .i64 h.dr, .int .i64 h.lv, .int .i64 h.dO, .int .i64 h.ld, .int .i64 h.qu] 25)).alloc (.cells #[.int .i64 c.pos, .int .i64 c.vel, .int .i64 c.door] 27)).alloc (.cells #[.int .i64 x.push, .bool x.brk, .bool x.opn] 29)).alloc (.cells #[.int .i64 0, .int .i64 0] 33)).drew (w.heap.size + 2) x) := ((XW.at_ ((w.alloc (.cells #[.int .i64 h.fl, .int .i64 h.gp, .int .i64 h.ln, .int .i64 h.rf, .int .i64 h.sp, .int .i64 h.pu, .int .i64 h.br, .int .i64 h.dr, .int .i64 h.lv, .int .i64 h.dO, .int .i64 h.ld, .int .i64 h.qu] 25)).alloc (.cells #[.int .i64 c.pos, .int .i64 c.vel, .int .i64 c.door] 27)) x _ _ (by simp)).alloc _).drew
  have F3 : Hid (R2 ((((w.alloc (.cells #[.int .i64 h.fl, .int .i64 h.gp, .int .i64 h.ln, .int .i64 h.rf, .int .i64 h.sp, .int .i64 h.pu, .int .i64 h.br, .int .i64 h.dr, .int .i64 h.lv, .int .i64 h.dO, .int .i64 h.ld, .int .i64 h.qu] 25)).alloc (.cells #[.int .i64 c.pos, .int .i64 c.vel, .int .i64 c.door] 27)).alloc (.cells #[.int .i64 x.push, .bool x.brk, .bool x.opn] 29)).alloc (.cells #[.int .i64 0, .int .i64 0] 33)).drew (w.heap.size + 3)) := (R2.at_ (((w.alloc (.cells #[.int .i64 h.fl, .int .i64 h.gp, .int .i64 h.ln, .int .i64 h.rf, .int .i64 h.sp, .int .i64 h.pu, .int .i64 h.br, .int .i64 h.dr, .int .i64 h.lv, .int .i64 h.dO, .int .i64 h.ld, .int .i64 h.qu] 25)).alloc (.cells #[.int .i64 c.pos, .int .i64 c.vel, .int .i64 c.door] 27)).alloc (.cells #[.int .i64 x.push, .bool x.brk, .bool x.opn] 29)) _ _ (by simp)).drew
  have FB : Hid (Below w.heap.size w ((((w.alloc (.cells #[.int .i64 h.fl, .int .i64 h.gp, .int .i64 h.ln, .int .i64 h.rf, .int .i64 h.sp, .int .i64 h.pu, .int .i64 h.br, .int .i64 h.dr, .int .i64 h.lv, .int .i64 h.dO, .int .i64 h.ld, .int .i64 h.qu] 25)).alloc (.cells #[.int .i64 c.pos, .int .i64 c.vel, .int .i64 c.door] 27)).alloc (.cells #[.int .i64 x.push, .bool x.brk, .bool x.opn] 29)).alloc (.cells #[.int .i64 0, .int .i64 0] 33)).drew) := (((((Below.refl _ _).alloc (Nat.le_refl _) _).alloc (by simp <;> omega) _).alloc (by simp <;> omega) _).alloc (by simp <;> omega) _).drew
  obtain ⟨x0_0, x0_1, x0_2, x0_3, x0_4, x0_5, x0_6, x0_7, x0_8, x0_9, x0_10, x0_11⟩ := F0.out
  obtain ⟨x1_0, x1_1, x1_2, y1_0, y1_1, y1_2⟩ := F1.out
  obtain ⟨x2_0, x2_1, x2_2, y2_0, y2_1, y2_2⟩ := F2.out
  obtain ⟨x3_0, x3_1, y3_0, y3_1⟩ := F3.out
  go_enter Try.func22, Try.ntmps22
  go_wp2_with fail
  refine wp_region_held_drew (S := (fun w'' => w''.cell? ⟨w.heap.size, 0, none⟩ = some (.int .i64 h.fl) ∧ w''.cell? ⟨w.heap.size, 1, none⟩ = some (.int .i64 h.gp) ∧ w''.cell? ⟨w.heap.size, 2, none⟩ = some (.int .i64 h.ln) ∧ w''.cell? ⟨w.heap.size, 3, none⟩ = some (.int .i64 h.rf) ∧ w''.cell? ⟨w.heap.size, 4, none⟩ = some (.int .i64 h.sp) ∧ w''.cell? ⟨w.heap.size, 5, none⟩ = some (.int .i64 h.pu) ∧ w''.cell? ⟨w.heap.size, 6, none⟩ = some (.int .i64 h.br) ∧ w''.cell? ⟨w.heap.size, 7, none⟩ = some (.int .i64 h.dr) ∧ w''.cell? ⟨w.heap.size, 8, none⟩ = some (.int .i64 h.lv) ∧ w''.cell? ⟨w.heap.size, 9, none⟩ = some (.int .i64 h.dO) ∧ w''.cell? ⟨w.heap.size, 10, none⟩ = some (.int .i64 h.ld) ∧ w''.cell? ⟨w.heap.size, 11, none⟩ = some (.int .i64 h.qu) ∧ w''.cell? ⟨(w.heap.size + 1), 0, none⟩ = some (.int .i64 c.pos) ∧ w''.cell? ⟨(w.heap.size + 1), 1, none⟩ = some (.int .i64 c.vel) ∧ w''.cell? ⟨(w.heap.size + 1), 2, none⟩ = some (.int .i64 c.door) ∧ w''.cell? ⟨(w.heap.size + 2), 0, none⟩ = some (.int .i64 x.push) ∧ w''.cell? ⟨(w.heap.size + 2), 1, none⟩ = some (.bool x.brk) ∧ w''.cell? ⟨(w.heap.size + 2), 2, none⟩ = some (.bool x.opn))) (by kernel_rfl) (by (try dsimp only); first | exact ⟨x0_0, x0_1, x0_2, x0_3, x0_4, x0_5, x0_6, x0_7, x0_8, x0_9, x0_10, x0_11, x1_0, x1_1, x1_2, x2_0, x2_1, x2_2⟩ | go_keep) (fun hHeld => ?_)
  refine tkz 0 rfl ?_
  refine tkz 1 rfl ?_
  refine tkz 3 rfl ?_
  refine tkz 4 rfl ?_
  refine wpAnyH_ready (rs := [2]) (by kernel_rfl) (by simp) ?_
  refine AllReadyH.cons rfl (fun K hK => ?_) AllReadyH.nil
  go_simp
  refine (implCarFault_any h c _).mono ?_
  rw [hk]
  rintro e w1 ⟨rfl, hb⟩
  have F0 : Hid (HAt w1 w.heap.size h) := F0.out.below hb F0.out.lt
  have F1 : Hid (CW w1 (w.heap.size + 1) c) := F1.out.below hb F1.out.lt
  have F2 : Hid (XW w1 (w.heap.size + 2) x) := F2.out.below hb F2.out.lt
  have F3 : Hid (R2 w1 (w.heap.size + 3)) := F3.out.below hb F3.out.lt
  have FB : Hid (Below w.heap.size w w1) := FB.out.trans (hb.mono FB.out.size)
  obtain ⟨x0_0, x0_1, x0_2, x0_3, x0_4, x0_5, x0_6, x0_7, x0_8, x0_9, x0_10, x0_11⟩ := F0.out
  obtain ⟨x1_0, x1_1, x1_2, y1_0, y1_1, y1_2⟩ := F1.out
  obtain ⟨x2_0, x2_1, x2_2, y2_0, y2_1, y2_2⟩ := F2.out
  obtain ⟨x3_0, x3_1, y3_0, y3_1⟩ := F3.out
  clear hb
  try go_wp2_with fail
  refine hK.out _ _ (by (try dsimp only); go_keep) (fun hHeld => ?_)
  clear hK K
  try simp only [Act.put, List.getElem_toArray, List.getElem_cons_succ, List.getElem_cons_zero, List.setIfInBounds_toArray, List.set_cons_zero, List.set_cons_succ]
  refine wpAnyH_ready (rs := [5]) (by kernel_rfl) (by simp) ?_
  refine AllReadyH.cons rfl (fun K hK => ?_) AllReadyH.nil
  go_simp
  refine (implCommandFault_any h x _).mono ?_
  rw [hx]
  rintro e w2 ⟨rfl, hb⟩
  have F0 : Hid (HAt w2 w.heap.size h) := F0.out.below hb F0.out.lt
  have F1 : Hid (CW w2 (w.heap.size + 1) c) := F1.out.below hb F1.out.lt
  have F2 : Hid (XW w2 (w.heap.size + 2) x) := F2.out.below hb F2.out.lt
  have F3 : Hid (R2 w2 (w.heap.size + 3)) := F3.out.below hb F3.out.lt
  have FB : Hid (Below w.heap.size w w2) := FB.out.trans (hb.mono FB.out.size)
  obtain ⟨x0_0, x0_1, x0_2, x0_3, x0_4, x0_5, x0_6, x0_7, x0_8, x0_9, x0_10, x0_11⟩ := F0.out
  obtain ⟨x1_0, x1_1, x1_2, y1_0, y1_1, y1_2⟩ := F1.out
  obtain ⟨x2_0, x2_1, x2_2, y2_0, y2_1, y2_2⟩ := F2.out
  obtain ⟨x3_0, x3_1, y3_0, y3_1⟩ := F3.out
  clear hb
  try go_wp2_with fail
  refine hK.out _ _ (by (try dsimp only); go_keep) (fun hHeld => ?_)
  clear hK K
  try simp only [Act.put, List.getElem_toArray, List.getElem_cons_succ, List.getElem_cons_zero, List.setIfInBounds_toArray, List.set_cons_zero, List.set_cons_succ]
  refine wpAnyH_ready (rs := [6]) (by kernel_rfl) (by simp) ?_
  refine AllReadyH.cons rfl (fun K hK => ?_) AllReadyH.nil
  go_simp
  have F0 : Hid (HAt (w2.alloc (.cells #[.int .i64 0, .int .i64 0] 2)) w.heap.size h) := F0.out.alloc _
  have F1 : Hid (CW (w2.alloc (.cells #[.int .i64 0, .int .i64 0] 2)) (w.heap.size + 1) c) := F1.out.alloc _
  have F2 : Hid (XW (w2.alloc (.cells #[.int .i64 0, .int .i64 0] 2)) (w.heap.size + 2) x) := F2.out.alloc _
  have F3 : Hid (R2 (w2.alloc (.cells #[.int .i64 0, .int .i64 0] 2)) (w.heap.size + 3)) := F3.out.alloc _
  have FB : Hid (Below w.heap.size w (w2.alloc (.cells #[.int .i64 0, .int .i64 0] 2))) := FB.out.alloc FB.out.size _
  obtain ⟨x0_0, x0_1, x0_2, x0_3, x0_4, x0_5, x0_6, x0_7, x0_8, x0_9, x0_10, x0_11⟩ := F0.out
  obtain ⟨x1_0, x1_1, x1_2, y1_0, y1_1, y1_2⟩ := F1.out
  obtain ⟨x2_0, x2_1, x2_2, y2_0, y2_1, y2_2⟩ := F2.out
  obtain ⟨x3_0, x3_1, y3_0, y3_1⟩ := F3.out
  refine hK.out _ _ (by (try dsimp only); go_keep) (fun hHeld => ?_)
  clear hK K
  try simp only [Act.put, List.getElem_toArray, List.getElem_cons_succ, List.getElem_cons_zero, List.setIfInBounds_toArray, List.set_cons_zero, List.set_cons_succ]
  refine wpAnyH_ready (rs := [7]) (by kernel_rfl) (by simp) ?_
  refine AllReadyH.cons rfl (fun K hK => ?_) AllReadyH.nil
  go_simp
  refine (or_second 0 0 rfl _ _ (by simp) (by simp)).mono ?_
  rintro e w' ⟨rfl, hw⟩
  obtain rfl := hw.symm
  clear hw
  try go_wp2_with fail
  refine hK.out _ _ (by (try dsimp only); go_keep) (fun hHeld => ?_)
  clear hK K
  try simp only [Act.put, List.getElem_toArray, List.getElem_cons_succ, List.getElem_cons_zero, List.setIfInBounds_toArray, List.set_cons_zero, List.set_cons_succ]
  refine tkz 8 rfl ?_
  refine wpAnyH_done (by kernel_rfl) ?_ _
  obtain ⟨w4, hw4⟩ : ∃ w4, w4 = w2.alloc (.cells #[.int .i64 0, .int .i64 0] 2) := ⟨_, rfl⟩
  have F0 : Hid (HAt w4 w.heap.size h) := by rw [hw4]; exact F0.out
  have F1 : Hid (CW w4 (w.heap.size + 1) c) := by rw [hw4]; exact F1.out
  have F2 : Hid (XW w4 (w.heap.size + 2) x) := by rw [hw4]; exact F2.out
  have F3 : Hid (R2 w4 (w.heap.size + 3)) := by rw [hw4]; exact F3.out
  have FB : Hid (Below w.heap.size w w4) := by rw [hw4]; exact FB.out
  rw [← hw4]
  clear hw4
  obtain ⟨x0_0, x0_1, x0_2, x0_3, x0_4, x0_5, x0_6, x0_7, x0_8, x0_9, x0_10, x0_11⟩ := F0.out
  obtain ⟨x1_0, x1_1, x1_2, y1_0, y1_1, y1_2⟩ := F1.out
  obtain ⟨x2_0, x2_1, x2_2, y2_0, y2_1, y2_2⟩ := F2.out
  obtain ⟨x3_0, x3_1, y3_0, y3_1⟩ := F3.out
  go_wp2_with (go_at_call 23; refine (highestBehind_any h c x HK.out HP.out.1 HP.out.2 _).mono ?_; rintro e w5 ⟨rfl, hb⟩; have F0 : Hid (HAt w5 w.heap.size h) := F0.out.below hb F0.out.lt; have F1 : Hid (CW w5 (w.heap.size + 1) c) := F1.out.below hb F1.out.lt; have F2 : Hid (XW w5 (w.heap.size + 2) x) := F2.out.below hb F2.out.lt; have F3 : Hid (R2 w5 (w.heap.size + 3)) := F3.out.below hb F3.out.lt; have FB : Hid (Below w.heap.size w w5) := FB.out.trans (hb.mono FB.out.size); obtain ⟨x0_0, x0_1, x0_2, x0_3, x0_4, x0_5, x0_6, x0_7, x0_8, x0_9, x0_10, x0_11⟩ := F0.out; obtain ⟨x1_0, x1_1, x1_2, y1_0, y1_1, y1_2⟩ := F1.out; obtain ⟨x2_0, x2_1, x2_2, y2_0, y2_1, y2_2⟩ := F2.out; obtain ⟨x3_0, x3_1, y3_0, y3_1⟩ := F3.out; clear hb)
  exact bodyPost_ret (v := .agg #[.int .i64 0, .int .i64 (Hs.wh h c x)]) (by simp [results, Try.results22, go_sem, x3_0, x3_1]) rfl ⟨rfl, by repeat (first | exact FB.out | (refine Below.setCell ?_ (by simp <;> omega) _))⟩
theorem ofCommand_whV (h : Hs) (c : Cs) (x : Cm) (w : World) :
    Calls Try.prog 22 #[.agg #[.int .i64 h.fl, .int .i64 h.gp, .int .i64 h.ln, .int .i64 h.rf, .int .i64 h.sp, .int .i64 h.pu, .int .i64 h.br, .int .i64 h.dr, .int .i64 h.lv, .int .i64 h.dO, .int .i64 h.ld, .int .i64 h.qu], .agg #[.int .i64 c.pos, .int .i64 c.vel, .int .i64 c.door], .agg #[.int .i64 x.push, .bool x.brk, .bool x.opn], .func (.func 23) #[] #[]] w (isAns w (Hs.asked h c x) (Hs.whV h c x)) := by
  unfold Hs.whV
  by_cases hk : h.car c = 0
  · have e : Hs.asked h c x = h.cmd x := by unfold Hs.asked; rw [if_pos hk]
    rw [e]
    by_cases hx : h.cmd x = 0
    · rw [if_pos hx, hx]; exact ofCommand_wh h c x hk hx w
    · rw [if_neg hx]; exact ofCommand_cmd h c x hk hx _ w
  · have e : Hs.asked h c x = h.car c := by unfold Hs.asked; rw [if_neg hk]
    rw [e, if_neg hk]; exact ofCommand_car h c x hk _ w
set_option maxRecDepth 20000 in
set_option maxHeartbeats 8000000 in
theorem implWorstHigh_any (h : Hs) (c : Cs) (x : Cm) (w : World) :
    Calls Try.prog 8 #[.agg #[.int .i64 h.fl, .int .i64 h.gp, .int .i64 h.ln, .int .i64 h.rf, .int .i64 h.sp, .int .i64 h.pu, .int .i64 h.br, .int .i64 h.dr, .int .i64 h.lv, .int .i64 h.dO, .int .i64 h.ld, .int .i64 h.qu], .agg #[.int .i64 c.pos, .int .i64 c.vel, .int .i64 c.door], .agg #[.int .i64 x.push, .bool x.brk, .bool x.opn]] w (isAns w (Hs.asked h c x) (Hs.whV h c x)) := by
  have F0 : Hid (HAt ((((w.alloc (.cells #[.int .i64 h.fl, .int .i64 h.gp, .int .i64 h.ln, .int .i64 h.rf, .int .i64 h.sp, .int .i64 h.pu, .int .i64 h.br, .int .i64 h.dr, .int .i64 h.lv, .int .i64 h.dO, .int .i64 h.ld, .int .i64 h.qu] 25)).alloc (.cells #[.int .i64 c.pos, .int .i64 c.vel, .int .i64 c.door] 27)).alloc (.cells #[.int .i64 x.push, .bool x.brk, .bool x.opn] 29)).alloc (.cells #[.int .i64 0, .int .i64 0] 33)) w.heap.size h) := (((HAt.at_ w h _ _ (by simp)).alloc _).alloc _).alloc _
  have F1 : Hid (CW ((((w.alloc (.cells #[.int .i64 h.fl, .int .i64 h.gp, .int .i64 h.ln, .int .i64 h.rf, .int .i64 h.sp, .int .i64 h.pu, .int .i64 h.br, .int .i64 h.dr, .int .i64 h.lv, .int .i64 h.dO, .int .i64 h.ld, .int .i64 h.qu] 25)).alloc (.cells #[.int .i64 c.pos, .int .i64 c.vel, .int .i64 c.door] 27)).alloc (.cells #[.int .i64 x.push, .bool x.brk, .bool x.opn] 29)).alloc (.cells #[.int .i64 0, .int .i64 0] 33)) (w.heap.size + 1) c) := ((CW.at_ (w.alloc (.cells #[.int .i64 h.fl, .int .i64 h.gp, .int .i64 h.ln, .int .i64 h.rf, .int .i64 h.sp, .int .i64 h.pu, .int .i64 h.br, .int .i64 h.dr, .int .i64 h.lv, .int .i64 h.dO, .int .i64 h.ld, .int .i64 h.qu] 25)) c _ _ (by simp)).alloc _).alloc _
  have F2 : Hid (XW ((((w.alloc (.cells #[.int .i64 h.fl, .int .i64 h.gp, .int .i64 h.ln, .int .i64 h.rf, .int .i64 h.sp, .int .i64 h.pu, .int .i64 h.br, .int .i64 h.dr, .int .i64 h.lv, .int .i64 h.dO, .int .i64 h.ld, .int .i64 h.qu] 25)).alloc (.cells #[.int .i64 c.pos, .int .i64 c.vel, .int .i64 c.door] 27)).alloc (.cells #[.int .i64 x.push, .bool x.brk, .bool x.opn] 29)).alloc (.cells #[.int .i64 0, .int .i64 0] 33)) (w.heap.size + 2) x) := (XW.at_ ((w.alloc (.cells #[.int .i64 h.fl, .int .i64 h.gp, .int .i64 h.ln, .int .i64 h.rf, .int .i64 h.sp, .int .i64 h.pu, .int .i64 h.br, .int .i64 h.dr, .int .i64 h.lv, .int .i64 h.dO, .int .i64 h.ld, .int .i64 h.qu] 25)).alloc (.cells #[.int .i64 c.pos, .int .i64 c.vel, .int .i64 c.door] 27)) x _ _ (by simp)).alloc _
  have F3 : Hid (R2 ((((w.alloc (.cells #[.int .i64 h.fl, .int .i64 h.gp, .int .i64 h.ln, .int .i64 h.rf, .int .i64 h.sp, .int .i64 h.pu, .int .i64 h.br, .int .i64 h.dr, .int .i64 h.lv, .int .i64 h.dO, .int .i64 h.ld, .int .i64 h.qu] 25)).alloc (.cells #[.int .i64 c.pos, .int .i64 c.vel, .int .i64 c.door] 27)).alloc (.cells #[.int .i64 x.push, .bool x.brk, .bool x.opn] 29)).alloc (.cells #[.int .i64 0, .int .i64 0] 33)) (w.heap.size + 3)) := R2.at_ (((w.alloc (.cells #[.int .i64 h.fl, .int .i64 h.gp, .int .i64 h.ln, .int .i64 h.rf, .int .i64 h.sp, .int .i64 h.pu, .int .i64 h.br, .int .i64 h.dr, .int .i64 h.lv, .int .i64 h.dO, .int .i64 h.ld, .int .i64 h.qu] 25)).alloc (.cells #[.int .i64 c.pos, .int .i64 c.vel, .int .i64 c.door] 27)).alloc (.cells #[.int .i64 x.push, .bool x.brk, .bool x.opn] 29)) _ _ (by simp)
  have FB : Hid (Below w.heap.size w ((((w.alloc (.cells #[.int .i64 h.fl, .int .i64 h.gp, .int .i64 h.ln, .int .i64 h.rf, .int .i64 h.sp, .int .i64 h.pu, .int .i64 h.br, .int .i64 h.dr, .int .i64 h.lv, .int .i64 h.dO, .int .i64 h.ld, .int .i64 h.qu] 25)).alloc (.cells #[.int .i64 c.pos, .int .i64 c.vel, .int .i64 c.door] 27)).alloc (.cells #[.int .i64 x.push, .bool x.brk, .bool x.opn] 29)).alloc (.cells #[.int .i64 0, .int .i64 0] 33))) := (((((Below.refl _ _).alloc (Nat.le_refl _) _).alloc (by simp <;> omega) _).alloc (by simp <;> omega) _).alloc (by simp <;> omega) _)
  go_enter Try.func8, Try.ntmps8
  go_wp2_with (go_at_call 22; refine (ofCommand_whV h c x _).mono ?_; rintro e w1 ⟨rfl, hb⟩; have F0 : Hid (HAt w1 w.heap.size h) := F0.out.below hb F0.out.lt; have F1 : Hid (CW w1 (w.heap.size + 1) c) := F1.out.below hb F1.out.lt; have F2 : Hid (XW w1 (w.heap.size + 2) x) := F2.out.below hb F2.out.lt; have F3 : Hid (R2 w1 (w.heap.size + 3)) := F3.out.below hb F3.out.lt; have FB : Hid (Below w.heap.size w w1) := FB.out.trans (hb.mono FB.out.size); obtain ⟨x0_0, x0_1, x0_2, x0_3, x0_4, x0_5, x0_6, x0_7, x0_8, x0_9, x0_10, x0_11⟩ := F0.out; obtain ⟨x1_0, x1_1, x1_2, y1_0, y1_1, y1_2⟩ := F1.out; obtain ⟨x2_0, x2_1, x2_2, y2_0, y2_1, y2_2⟩ := F2.out; obtain ⟨x3_0, x3_1, y3_0, y3_1⟩ := F3.out; clear hb)
  exact bodyPost_ret (v := .agg #[.int .i64 (Hs.asked h c x), .int .i64 (Hs.whV h c x)]) (by simp [results, Try.results8, go_sem, x3_0, x3_1]) rfl ⟨rfl, by repeat (first | exact FB.out | (refine Below.setCell ?_ (by simp <;> omega) _))⟩
set_option maxRecDepth 20000 in
set_option maxHeartbeats 8000000 in
theorem ofCommand_wl (h : Hs) (c : Cs) (x : Cm) (hk : h.car c = 0) (hx : h.cmd x = 0) (w : World) :
    Calls Try.prog 22 #[.agg #[.int .i64 h.fl, .int .i64 h.gp, .int .i64 h.ln, .int .i64 h.rf, .int .i64 h.sp, .int .i64 h.pu, .int .i64 h.br, .int .i64 h.dr, .int .i64 h.lv, .int .i64 h.dO, .int .i64 h.ld, .int .i64 h.qu], .agg #[.int .i64 c.pos, .int .i64 c.vel, .int .i64 c.door], .agg #[.int .i64 x.push, .bool x.brk, .bool x.opn], .func (.func 24) #[] #[]] w (isAns w 0 (Hs.wl h c x)) := by
  have k := Hs.car_zero hk
  have HK : Hid (CarOk h c) := k
  have HP : Hid (-h.pu ≤ x.push ∧ x.push ≤ h.pu) := cmd_push k.hf hx
  clear k
  have F0 : Hid (HAt ((((w.alloc (.cells #[.int .i64 h.fl, .int .i64 h.gp, .int .i64 h.ln, .int .i64 h.rf, .int .i64 h.sp, .int .i64 h.pu, .int .i64 h.br, .int .i64 h.dr, .int .i64 h.lv, .int .i64 h.dO, .int .i64 h.ld, .int .i64 h.qu] 25)).alloc (.cells #[.int .i64 c.pos, .int .i64 c.vel, .int .i64 c.door] 27)).alloc (.cells #[.int .i64 x.push, .bool x.brk, .bool x.opn] 29)).alloc (.cells #[.int .i64 0, .int .i64 0] 33)).drew w.heap.size h) := ((((HAt.at_ w h _ _ (by simp)).alloc _).alloc _).alloc _).drew
  have F1 : Hid (CW ((((w.alloc (.cells #[.int .i64 h.fl, .int .i64 h.gp, .int .i64 h.ln, .int .i64 h.rf, .int .i64 h.sp, .int .i64 h.pu, .int .i64 h.br, .int .i64 h.dr, .int .i64 h.lv, .int .i64 h.dO, .int .i64 h.ld, .int .i64 h.qu] 25)).alloc (.cells #[.int .i64 c.pos, .int .i64 c.vel, .int .i64 c.door] 27)).alloc (.cells #[.int .i64 x.push, .bool x.brk, .bool x.opn] 29)).alloc (.cells #[.int .i64 0, .int .i64 0] 33)).drew (w.heap.size + 1) c) := (((CW.at_ (w.alloc (.cells #[.int .i64 h.fl, .int .i64 h.gp, .int .i64 h.ln, .int .i64 h.rf, .int .i64 h.sp, .int .i64 h.pu, .int .i64 h.br, .int .i64 h.dr, .int .i64 h.lv, .int .i64 h.dO, .int .i64 h.ld, .int .i64 h.qu] 25)) c _ _ (by simp)).alloc _).alloc _).drew
  have F2 : Hid (XW ((((w.alloc (.cells #[.int .i64 h.fl, .int .i64 h.gp, .int .i64 h.ln, .int .i64 h.rf, .int .i64 h.sp, .int .i64 h.pu, .int .i64 h.br, .int .i64 h.dr, .int .i64 h.lv, .int .i64 h.dO, .int .i64 h.ld, .int .i64 h.qu] 25)).alloc (.cells #[.int .i64 c.pos, .int .i64 c.vel, .int .i64 c.door] 27)).alloc (.cells #[.int .i64 x.push, .bool x.brk, .bool x.opn] 29)).alloc (.cells #[.int .i64 0, .int .i64 0] 33)).drew (w.heap.size + 2) x) := ((XW.at_ ((w.alloc (.cells #[.int .i64 h.fl, .int .i64 h.gp, .int .i64 h.ln, .int .i64 h.rf, .int .i64 h.sp, .int .i64 h.pu, .int .i64 h.br, .int .i64 h.dr, .int .i64 h.lv, .int .i64 h.dO, .int .i64 h.ld, .int .i64 h.qu] 25)).alloc (.cells #[.int .i64 c.pos, .int .i64 c.vel, .int .i64 c.door] 27)) x _ _ (by simp)).alloc _).drew
  have F3 : Hid (R2 ((((w.alloc (.cells #[.int .i64 h.fl, .int .i64 h.gp, .int .i64 h.ln, .int .i64 h.rf, .int .i64 h.sp, .int .i64 h.pu, .int .i64 h.br, .int .i64 h.dr, .int .i64 h.lv, .int .i64 h.dO, .int .i64 h.ld, .int .i64 h.qu] 25)).alloc (.cells #[.int .i64 c.pos, .int .i64 c.vel, .int .i64 c.door] 27)).alloc (.cells #[.int .i64 x.push, .bool x.brk, .bool x.opn] 29)).alloc (.cells #[.int .i64 0, .int .i64 0] 33)).drew (w.heap.size + 3)) := (R2.at_ (((w.alloc (.cells #[.int .i64 h.fl, .int .i64 h.gp, .int .i64 h.ln, .int .i64 h.rf, .int .i64 h.sp, .int .i64 h.pu, .int .i64 h.br, .int .i64 h.dr, .int .i64 h.lv, .int .i64 h.dO, .int .i64 h.ld, .int .i64 h.qu] 25)).alloc (.cells #[.int .i64 c.pos, .int .i64 c.vel, .int .i64 c.door] 27)).alloc (.cells #[.int .i64 x.push, .bool x.brk, .bool x.opn] 29)) _ _ (by simp)).drew
  have FB : Hid (Below w.heap.size w ((((w.alloc (.cells #[.int .i64 h.fl, .int .i64 h.gp, .int .i64 h.ln, .int .i64 h.rf, .int .i64 h.sp, .int .i64 h.pu, .int .i64 h.br, .int .i64 h.dr, .int .i64 h.lv, .int .i64 h.dO, .int .i64 h.ld, .int .i64 h.qu] 25)).alloc (.cells #[.int .i64 c.pos, .int .i64 c.vel, .int .i64 c.door] 27)).alloc (.cells #[.int .i64 x.push, .bool x.brk, .bool x.opn] 29)).alloc (.cells #[.int .i64 0, .int .i64 0] 33)).drew) := (((((Below.refl _ _).alloc (Nat.le_refl _) _).alloc (by simp <;> omega) _).alloc (by simp <;> omega) _).alloc (by simp <;> omega) _).drew
  obtain ⟨x0_0, x0_1, x0_2, x0_3, x0_4, x0_5, x0_6, x0_7, x0_8, x0_9, x0_10, x0_11⟩ := F0.out
  obtain ⟨x1_0, x1_1, x1_2, y1_0, y1_1, y1_2⟩ := F1.out
  obtain ⟨x2_0, x2_1, x2_2, y2_0, y2_1, y2_2⟩ := F2.out
  obtain ⟨x3_0, x3_1, y3_0, y3_1⟩ := F3.out
  go_enter Try.func22, Try.ntmps22
  go_wp2_with fail
  refine wp_region_held_drew (S := (fun w'' => w''.cell? ⟨w.heap.size, 0, none⟩ = some (.int .i64 h.fl) ∧ w''.cell? ⟨w.heap.size, 1, none⟩ = some (.int .i64 h.gp) ∧ w''.cell? ⟨w.heap.size, 2, none⟩ = some (.int .i64 h.ln) ∧ w''.cell? ⟨w.heap.size, 3, none⟩ = some (.int .i64 h.rf) ∧ w''.cell? ⟨w.heap.size, 4, none⟩ = some (.int .i64 h.sp) ∧ w''.cell? ⟨w.heap.size, 5, none⟩ = some (.int .i64 h.pu) ∧ w''.cell? ⟨w.heap.size, 6, none⟩ = some (.int .i64 h.br) ∧ w''.cell? ⟨w.heap.size, 7, none⟩ = some (.int .i64 h.dr) ∧ w''.cell? ⟨w.heap.size, 8, none⟩ = some (.int .i64 h.lv) ∧ w''.cell? ⟨w.heap.size, 9, none⟩ = some (.int .i64 h.dO) ∧ w''.cell? ⟨w.heap.size, 10, none⟩ = some (.int .i64 h.ld) ∧ w''.cell? ⟨w.heap.size, 11, none⟩ = some (.int .i64 h.qu) ∧ w''.cell? ⟨(w.heap.size + 1), 0, none⟩ = some (.int .i64 c.pos) ∧ w''.cell? ⟨(w.heap.size + 1), 1, none⟩ = some (.int .i64 c.vel) ∧ w''.cell? ⟨(w.heap.size + 1), 2, none⟩ = some (.int .i64 c.door) ∧ w''.cell? ⟨(w.heap.size + 2), 0, none⟩ = some (.int .i64 x.push) ∧ w''.cell? ⟨(w.heap.size + 2), 1, none⟩ = some (.bool x.brk) ∧ w''.cell? ⟨(w.heap.size + 2), 2, none⟩ = some (.bool x.opn))) (by kernel_rfl) (by (try dsimp only); first | exact ⟨x0_0, x0_1, x0_2, x0_3, x0_4, x0_5, x0_6, x0_7, x0_8, x0_9, x0_10, x0_11, x1_0, x1_1, x1_2, x2_0, x2_1, x2_2⟩ | go_keep) (fun hHeld => ?_)
  refine tkz 0 rfl ?_
  refine tkz 1 rfl ?_
  refine tkz 3 rfl ?_
  refine tkz 4 rfl ?_
  refine wpAnyH_ready (rs := [2]) (by kernel_rfl) (by simp) ?_
  refine AllReadyH.cons rfl (fun K hK => ?_) AllReadyH.nil
  go_simp
  refine (implCarFault_any h c _).mono ?_
  rw [hk]
  rintro e w1 ⟨rfl, hb⟩
  have F0 : Hid (HAt w1 w.heap.size h) := F0.out.below hb F0.out.lt
  have F1 : Hid (CW w1 (w.heap.size + 1) c) := F1.out.below hb F1.out.lt
  have F2 : Hid (XW w1 (w.heap.size + 2) x) := F2.out.below hb F2.out.lt
  have F3 : Hid (R2 w1 (w.heap.size + 3)) := F3.out.below hb F3.out.lt
  have FB : Hid (Below w.heap.size w w1) := FB.out.trans (hb.mono FB.out.size)
  obtain ⟨x0_0, x0_1, x0_2, x0_3, x0_4, x0_5, x0_6, x0_7, x0_8, x0_9, x0_10, x0_11⟩ := F0.out
  obtain ⟨x1_0, x1_1, x1_2, y1_0, y1_1, y1_2⟩ := F1.out
  obtain ⟨x2_0, x2_1, x2_2, y2_0, y2_1, y2_2⟩ := F2.out
  obtain ⟨x3_0, x3_1, y3_0, y3_1⟩ := F3.out
  clear hb
  try go_wp2_with fail
  refine hK.out _ _ (by (try dsimp only); go_keep) (fun hHeld => ?_)
  clear hK K
  try simp only [Act.put, List.getElem_toArray, List.getElem_cons_succ, List.getElem_cons_zero, List.setIfInBounds_toArray, List.set_cons_zero, List.set_cons_succ]
  refine wpAnyH_ready (rs := [5]) (by kernel_rfl) (by simp) ?_
  refine AllReadyH.cons rfl (fun K hK => ?_) AllReadyH.nil
  go_simp
  refine (implCommandFault_any h x _).mono ?_
  rw [hx]
  rintro e w2 ⟨rfl, hb⟩
  have F0 : Hid (HAt w2 w.heap.size h) := F0.out.below hb F0.out.lt
  have F1 : Hid (CW w2 (w.heap.size + 1) c) := F1.out.below hb F1.out.lt
  have F2 : Hid (XW w2 (w.heap.size + 2) x) := F2.out.below hb F2.out.lt
  have F3 : Hid (R2 w2 (w.heap.size + 3)) := F3.out.below hb F3.out.lt
  have FB : Hid (Below w.heap.size w w2) := FB.out.trans (hb.mono FB.out.size)
  obtain ⟨x0_0, x0_1, x0_2, x0_3, x0_4, x0_5, x0_6, x0_7, x0_8, x0_9, x0_10, x0_11⟩ := F0.out
  obtain ⟨x1_0, x1_1, x1_2, y1_0, y1_1, y1_2⟩ := F1.out
  obtain ⟨x2_0, x2_1, x2_2, y2_0, y2_1, y2_2⟩ := F2.out
  obtain ⟨x3_0, x3_1, y3_0, y3_1⟩ := F3.out
  clear hb
  try go_wp2_with fail
  refine hK.out _ _ (by (try dsimp only); go_keep) (fun hHeld => ?_)
  clear hK K
  try simp only [Act.put, List.getElem_toArray, List.getElem_cons_succ, List.getElem_cons_zero, List.setIfInBounds_toArray, List.set_cons_zero, List.set_cons_succ]
  refine wpAnyH_ready (rs := [6]) (by kernel_rfl) (by simp) ?_
  refine AllReadyH.cons rfl (fun K hK => ?_) AllReadyH.nil
  go_simp
  have F0 : Hid (HAt (w2.alloc (.cells #[.int .i64 0, .int .i64 0] 2)) w.heap.size h) := F0.out.alloc _
  have F1 : Hid (CW (w2.alloc (.cells #[.int .i64 0, .int .i64 0] 2)) (w.heap.size + 1) c) := F1.out.alloc _
  have F2 : Hid (XW (w2.alloc (.cells #[.int .i64 0, .int .i64 0] 2)) (w.heap.size + 2) x) := F2.out.alloc _
  have F3 : Hid (R2 (w2.alloc (.cells #[.int .i64 0, .int .i64 0] 2)) (w.heap.size + 3)) := F3.out.alloc _
  have FB : Hid (Below w.heap.size w (w2.alloc (.cells #[.int .i64 0, .int .i64 0] 2))) := FB.out.alloc FB.out.size _
  obtain ⟨x0_0, x0_1, x0_2, x0_3, x0_4, x0_5, x0_6, x0_7, x0_8, x0_9, x0_10, x0_11⟩ := F0.out
  obtain ⟨x1_0, x1_1, x1_2, y1_0, y1_1, y1_2⟩ := F1.out
  obtain ⟨x2_0, x2_1, x2_2, y2_0, y2_1, y2_2⟩ := F2.out
  obtain ⟨x3_0, x3_1, y3_0, y3_1⟩ := F3.out
  refine hK.out _ _ (by (try dsimp only); go_keep) (fun hHeld => ?_)
  clear hK K
  try simp only [Act.put, List.getElem_toArray, List.getElem_cons_succ, List.getElem_cons_zero, List.setIfInBounds_toArray, List.set_cons_zero, List.set_cons_succ]
  refine wpAnyH_ready (rs := [7]) (by kernel_rfl) (by simp) ?_
  refine AllReadyH.cons rfl (fun K hK => ?_) AllReadyH.nil
  go_simp
  refine (or_second 0 0 rfl _ _ (by simp) (by simp)).mono ?_
  rintro e w' ⟨rfl, hw⟩
  obtain rfl := hw.symm
  clear hw
  try go_wp2_with fail
  refine hK.out _ _ (by (try dsimp only); go_keep) (fun hHeld => ?_)
  clear hK K
  try simp only [Act.put, List.getElem_toArray, List.getElem_cons_succ, List.getElem_cons_zero, List.setIfInBounds_toArray, List.set_cons_zero, List.set_cons_succ]
  refine tkz 8 rfl ?_
  refine wpAnyH_done (by kernel_rfl) ?_ _
  obtain ⟨w4, hw4⟩ : ∃ w4, w4 = w2.alloc (.cells #[.int .i64 0, .int .i64 0] 2) := ⟨_, rfl⟩
  have F0 : Hid (HAt w4 w.heap.size h) := by rw [hw4]; exact F0.out
  have F1 : Hid (CW w4 (w.heap.size + 1) c) := by rw [hw4]; exact F1.out
  have F2 : Hid (XW w4 (w.heap.size + 2) x) := by rw [hw4]; exact F2.out
  have F3 : Hid (R2 w4 (w.heap.size + 3)) := by rw [hw4]; exact F3.out
  have FB : Hid (Below w.heap.size w w4) := by rw [hw4]; exact FB.out
  rw [← hw4]
  clear hw4
  obtain ⟨x0_0, x0_1, x0_2, x0_3, x0_4, x0_5, x0_6, x0_7, x0_8, x0_9, x0_10, x0_11⟩ := F0.out
  obtain ⟨x1_0, x1_1, x1_2, y1_0, y1_1, y1_2⟩ := F1.out
  obtain ⟨x2_0, x2_1, x2_2, y2_0, y2_1, y2_2⟩ := F2.out
  obtain ⟨x3_0, x3_1, y3_0, y3_1⟩ := F3.out
  go_wp2_with (go_at_call 24; refine (lowestBehind_any h c x HK.out HP.out.1 HP.out.2 _).mono ?_; rintro e w5 ⟨rfl, hb⟩; have F0 : Hid (HAt w5 w.heap.size h) := F0.out.below hb F0.out.lt; have F1 : Hid (CW w5 (w.heap.size + 1) c) := F1.out.below hb F1.out.lt; have F2 : Hid (XW w5 (w.heap.size + 2) x) := F2.out.below hb F2.out.lt; have F3 : Hid (R2 w5 (w.heap.size + 3)) := F3.out.below hb F3.out.lt; have FB : Hid (Below w.heap.size w w5) := FB.out.trans (hb.mono FB.out.size); obtain ⟨x0_0, x0_1, x0_2, x0_3, x0_4, x0_5, x0_6, x0_7, x0_8, x0_9, x0_10, x0_11⟩ := F0.out; obtain ⟨x1_0, x1_1, x1_2, y1_0, y1_1, y1_2⟩ := F1.out; obtain ⟨x2_0, x2_1, x2_2, y2_0, y2_1, y2_2⟩ := F2.out; obtain ⟨x3_0, x3_1, y3_0, y3_1⟩ := F3.out; clear hb)
  exact bodyPost_ret (v := .agg #[.int .i64 0, .int .i64 (Hs.wl h c x)]) (by simp [results, Try.results22, go_sem, x3_0, x3_1]) rfl ⟨rfl, by repeat (first | exact FB.out | (refine Below.setCell ?_ (by simp <;> omega) _))⟩
theorem ofCommand_wlV (h : Hs) (c : Cs) (x : Cm) (w : World) :
    Calls Try.prog 22 #[.agg #[.int .i64 h.fl, .int .i64 h.gp, .int .i64 h.ln, .int .i64 h.rf, .int .i64 h.sp, .int .i64 h.pu, .int .i64 h.br, .int .i64 h.dr, .int .i64 h.lv, .int .i64 h.dO, .int .i64 h.ld, .int .i64 h.qu], .agg #[.int .i64 c.pos, .int .i64 c.vel, .int .i64 c.door], .agg #[.int .i64 x.push, .bool x.brk, .bool x.opn], .func (.func 24) #[] #[]] w (isAns w (Hs.asked h c x) (Hs.wlV h c x)) := by
  unfold Hs.wlV
  by_cases hk : h.car c = 0
  · have e : Hs.asked h c x = h.cmd x := by unfold Hs.asked; rw [if_pos hk]
    rw [e]
    by_cases hx : h.cmd x = 0
    · rw [if_pos hx, hx]; exact ofCommand_wl h c x hk hx w
    · rw [if_neg hx]; exact ofCommand_cmd h c x hk hx _ w
  · have e : Hs.asked h c x = h.car c := by unfold Hs.asked; rw [if_neg hk]
    rw [e, if_neg hk]; exact ofCommand_car h c x hk _ w
set_option maxRecDepth 20000 in
set_option maxHeartbeats 8000000 in
theorem implWorstLow_any (h : Hs) (c : Cs) (x : Cm) (w : World) :
    Calls Try.prog 9 #[.agg #[.int .i64 h.fl, .int .i64 h.gp, .int .i64 h.ln, .int .i64 h.rf, .int .i64 h.sp, .int .i64 h.pu, .int .i64 h.br, .int .i64 h.dr, .int .i64 h.lv, .int .i64 h.dO, .int .i64 h.ld, .int .i64 h.qu], .agg #[.int .i64 c.pos, .int .i64 c.vel, .int .i64 c.door], .agg #[.int .i64 x.push, .bool x.brk, .bool x.opn]] w (isAns w (Hs.asked h c x) (Hs.wlV h c x)) := by
  have F0 : Hid (HAt ((((w.alloc (.cells #[.int .i64 h.fl, .int .i64 h.gp, .int .i64 h.ln, .int .i64 h.rf, .int .i64 h.sp, .int .i64 h.pu, .int .i64 h.br, .int .i64 h.dr, .int .i64 h.lv, .int .i64 h.dO, .int .i64 h.ld, .int .i64 h.qu] 25)).alloc (.cells #[.int .i64 c.pos, .int .i64 c.vel, .int .i64 c.door] 27)).alloc (.cells #[.int .i64 x.push, .bool x.brk, .bool x.opn] 29)).alloc (.cells #[.int .i64 0, .int .i64 0] 33)) w.heap.size h) := (((HAt.at_ w h _ _ (by simp)).alloc _).alloc _).alloc _
  have F1 : Hid (CW ((((w.alloc (.cells #[.int .i64 h.fl, .int .i64 h.gp, .int .i64 h.ln, .int .i64 h.rf, .int .i64 h.sp, .int .i64 h.pu, .int .i64 h.br, .int .i64 h.dr, .int .i64 h.lv, .int .i64 h.dO, .int .i64 h.ld, .int .i64 h.qu] 25)).alloc (.cells #[.int .i64 c.pos, .int .i64 c.vel, .int .i64 c.door] 27)).alloc (.cells #[.int .i64 x.push, .bool x.brk, .bool x.opn] 29)).alloc (.cells #[.int .i64 0, .int .i64 0] 33)) (w.heap.size + 1) c) := ((CW.at_ (w.alloc (.cells #[.int .i64 h.fl, .int .i64 h.gp, .int .i64 h.ln, .int .i64 h.rf, .int .i64 h.sp, .int .i64 h.pu, .int .i64 h.br, .int .i64 h.dr, .int .i64 h.lv, .int .i64 h.dO, .int .i64 h.ld, .int .i64 h.qu] 25)) c _ _ (by simp)).alloc _).alloc _
  have F2 : Hid (XW ((((w.alloc (.cells #[.int .i64 h.fl, .int .i64 h.gp, .int .i64 h.ln, .int .i64 h.rf, .int .i64 h.sp, .int .i64 h.pu, .int .i64 h.br, .int .i64 h.dr, .int .i64 h.lv, .int .i64 h.dO, .int .i64 h.ld, .int .i64 h.qu] 25)).alloc (.cells #[.int .i64 c.pos, .int .i64 c.vel, .int .i64 c.door] 27)).alloc (.cells #[.int .i64 x.push, .bool x.brk, .bool x.opn] 29)).alloc (.cells #[.int .i64 0, .int .i64 0] 33)) (w.heap.size + 2) x) := (XW.at_ ((w.alloc (.cells #[.int .i64 h.fl, .int .i64 h.gp, .int .i64 h.ln, .int .i64 h.rf, .int .i64 h.sp, .int .i64 h.pu, .int .i64 h.br, .int .i64 h.dr, .int .i64 h.lv, .int .i64 h.dO, .int .i64 h.ld, .int .i64 h.qu] 25)).alloc (.cells #[.int .i64 c.pos, .int .i64 c.vel, .int .i64 c.door] 27)) x _ _ (by simp)).alloc _
  have F3 : Hid (R2 ((((w.alloc (.cells #[.int .i64 h.fl, .int .i64 h.gp, .int .i64 h.ln, .int .i64 h.rf, .int .i64 h.sp, .int .i64 h.pu, .int .i64 h.br, .int .i64 h.dr, .int .i64 h.lv, .int .i64 h.dO, .int .i64 h.ld, .int .i64 h.qu] 25)).alloc (.cells #[.int .i64 c.pos, .int .i64 c.vel, .int .i64 c.door] 27)).alloc (.cells #[.int .i64 x.push, .bool x.brk, .bool x.opn] 29)).alloc (.cells #[.int .i64 0, .int .i64 0] 33)) (w.heap.size + 3)) := R2.at_ (((w.alloc (.cells #[.int .i64 h.fl, .int .i64 h.gp, .int .i64 h.ln, .int .i64 h.rf, .int .i64 h.sp, .int .i64 h.pu, .int .i64 h.br, .int .i64 h.dr, .int .i64 h.lv, .int .i64 h.dO, .int .i64 h.ld, .int .i64 h.qu] 25)).alloc (.cells #[.int .i64 c.pos, .int .i64 c.vel, .int .i64 c.door] 27)).alloc (.cells #[.int .i64 x.push, .bool x.brk, .bool x.opn] 29)) _ _ (by simp)
  have FB : Hid (Below w.heap.size w ((((w.alloc (.cells #[.int .i64 h.fl, .int .i64 h.gp, .int .i64 h.ln, .int .i64 h.rf, .int .i64 h.sp, .int .i64 h.pu, .int .i64 h.br, .int .i64 h.dr, .int .i64 h.lv, .int .i64 h.dO, .int .i64 h.ld, .int .i64 h.qu] 25)).alloc (.cells #[.int .i64 c.pos, .int .i64 c.vel, .int .i64 c.door] 27)).alloc (.cells #[.int .i64 x.push, .bool x.brk, .bool x.opn] 29)).alloc (.cells #[.int .i64 0, .int .i64 0] 33))) := (((((Below.refl _ _).alloc (Nat.le_refl _) _).alloc (by simp <;> omega) _).alloc (by simp <;> omega) _).alloc (by simp <;> omega) _)
  go_enter Try.func9, Try.ntmps9
  go_wp2_with (go_at_call 22; refine (ofCommand_wlV h c x _).mono ?_; rintro e w1 ⟨rfl, hb⟩; have F0 : Hid (HAt w1 w.heap.size h) := F0.out.below hb F0.out.lt; have F1 : Hid (CW w1 (w.heap.size + 1) c) := F1.out.below hb F1.out.lt; have F2 : Hid (XW w1 (w.heap.size + 2) x) := F2.out.below hb F2.out.lt; have F3 : Hid (R2 w1 (w.heap.size + 3)) := F3.out.below hb F3.out.lt; have FB : Hid (Below w.heap.size w w1) := FB.out.trans (hb.mono FB.out.size); obtain ⟨x0_0, x0_1, x0_2, x0_3, x0_4, x0_5, x0_6, x0_7, x0_8, x0_9, x0_10, x0_11⟩ := F0.out; obtain ⟨x1_0, x1_1, x1_2, y1_0, y1_1, y1_2⟩ := F1.out; obtain ⟨x2_0, x2_1, x2_2, y2_0, y2_1, y2_2⟩ := F2.out; obtain ⟨x3_0, x3_1, y3_0, y3_1⟩ := F3.out; clear hb)
  exact bodyPost_ret (v := .agg #[.int .i64 (Hs.asked h c x), .int .i64 (Hs.wlV h c x)]) (by simp [results, Try.results9, go_sem, x3_0, x3_1]) rfl ⟨rfl, by repeat (first | exact FB.out | (refine Below.setCell ?_ (by simp <;> omega) _))⟩
end Go.Proofs.Ytclfdfcakmgffaa
