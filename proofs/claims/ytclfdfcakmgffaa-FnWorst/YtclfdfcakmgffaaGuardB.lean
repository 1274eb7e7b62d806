/-
  The model's guard: may a pair go; the faults of what is asked.
-/
import Derived.Test.YtclfdfcakmgffaaGuardA
import Derived.Test.YtclfdfcakmgffaaCarU
import Derived.Deep.DeepCutAuto
namespace Go.Proofs.Ytclfdfcakmgffaa
open Go.RowKit Pl
set_option linter.unusedSimpArgs false
set_option linter.unusedVariables false

set_option maxRecDepth 20000 in
set_option maxHeartbeats 16000000 in
theorem l5May_any (h : Hs) (s : Sh) (a b : Cm) (kl : CarOk h s.lo) (ku : CarOk h s.up) (a1 : -h.pu ≤ a.push) (a2 : a.push ≤ h.pu) (b1 : -h.pu ≤ b.push) (b2 : b.push ≤ h.pu) (w : World) :
    Calls Try.prog 91 #[.agg #[.int .i64 h.fl, .int .i64 h.gp, .int .i64 h.ln, .int .i64 h.rf, .int .i64 h.sp, .int .i64 h.pu, .int .i64 h.br, .int .i64 h.dr, .int .i64 h.lv, .int .i64 h.dO, .int .i64 h.ld, .int .i64 h.qu], .agg #[.int .i64 s.lo.pos, .int .i64 s.lo.vel, .int .i64 s.lo.door, .int .i64 s.up.pos, .int .i64 s.up.vel, .int .i64 s.up.door], .agg #[.int .i64 a.push, .bool a.brk, .bool a.opn], .agg #[.int .i64 b.push, .bool b.brk, .bool b.opn]] w fun e w' => e = .returned (.bool (Hs.may h s a b)) ∧ Below w.heap.size w w' := by
  have o := kl.ok
  have c1 := Hs.wl_bd ku b; have c2 := Hs.wh_bd kl a
  have e1 : IntKind.i64.wrap (Hs.wl h s.up b - Hs.wh h s.lo a) = Hs.wl h s.up b - Hs.wh h s.lo a := IntWalk.i64_in _ (by omega)
  obtain ⟨n1, hn1⟩ : ∃ n1, n1 = decide (Hs.wl h s.up b - Hs.wh h s.lo a < h.ln) := ⟨_, rfl⟩
  have HN : Hid (n1 = decide (Hs.wl h s.up b - Hs.wh h s.lo a < h.ln)) := hn1
  have HE : Hid (Hs.may h s a b = (!n1 && (decide (Hs.wh h s.up b ≤ h.high) && decide (h.low ≤ Hs.wl h s.lo a)))) := by
    have : (!n1) = decide (h.ln ≤ Hs.wl h s.up b - Hs.wh h s.lo a) := by rw [hn1]; refine Bool.eq_iff_iff.2 ?_; simp
    unfold Hs.may; rw [this]; exact rfl
  have HO : Hid h.Ok := o
  have HL : Hid (CarOk h s.lo) := kl
  have HU : Hid (CarOk h s.up) := ku
  have HA : Hid (-h.pu ≤ a.push ∧ a.push ≤ h.pu) := ⟨a1, a2⟩
  have HB : Hid (-h.pu ≤ b.push ∧ b.push ≤ h.pu) := ⟨b1, b2⟩
  clear o kl ku a1 a2 b1 b2 hn1
  obtain ⟨W0, hW0⟩ : ∃ W0, W0 = ((((w.alloc (.cells #[.int .i64 h.fl, .int .i64 h.gp, .int .i64 h.ln, .int .i64 h.rf, .int .i64 h.sp, .int .i64 h.pu, .int .i64 h.br, .int .i64 h.dr, .int .i64 h.lv, .int .i64 h.dO, .int .i64 h.ld, .int .i64 h.qu] 25)).alloc (.cells #[.int .i64 s.lo.pos, .int .i64 s.lo.vel, .int .i64 s.lo.door, .int .i64 s.up.pos, .int .i64 s.up.vel, .int .i64 s.up.door] 40)).alloc (.cells #[.int .i64 a.push, .bool a.brk, .bool a.opn] 29)).alloc (.cells #[.int .i64 b.push, .bool b.brk, .bool b.opn] 29)) := ⟨_, rfl⟩
  have F0 : Hid (HAt ((((w.alloc (.cells #[.int .i64 h.fl, .int .i64 h.gp, .int .i64 h.ln, .int .i64 h.rf, .int .i64 h.sp, .int .i64 h.pu, .int .i64 h.br, .int .i64 h.dr, .int .i64 h.lv, .int .i64 h.dO, .int .i64 h.ld, .int .i64 h.qu] 25)).alloc (.cells #[.int .i64 s.lo.pos, .int .i64 s.lo.vel, .int .i64 s.lo.door, .int .i64 s.up.pos, .int .i64 s.up.vel, .int .i64 s.up.door] 40)).alloc (.cells #[.int .i64 a.push, .bool a.brk, .bool a.opn] 29)).alloc (.cells #[.int .i64 b.push, .bool b.brk, .bool b.opn] 29)) w.heap.size h) := (((HAt.at_ w h _ _ (by simp)).alloc _).alloc _).alloc _
  have F1 : Hid (SW ((((w.alloc (.cells #[.int .i64 h.fl, .int .i64 h.gp, .int .i64 h.ln, .int .i64 h.rf, .int .i64 h.sp, .int .i64 h.pu, .int .i64 h.br, .int .i64 h.dr, .int .i64 h.lv, .int .i64 h.dO, .int .i64 h.ld, .int .i64 h.qu] 25)).alloc (.cells #[.int .i64 s.lo.pos, .int .i64 s.lo.vel, .int .i64 s.lo.door, .int .i64 s.up.pos, .int .i64 s.up.vel, .int .i64 s.up.door] 40)).alloc (.cells #[.int .i64 a.push, .bool a.brk, .bool a.opn] 29)).alloc (.cells #[.int .i64 b.push, .bool b.brk, .bool b.opn] 29)) (w.heap.size + 1) s) := ((SW.at_ (w.alloc (.cells #[.int .i64 h.fl, .int .i64 h.gp, .int .i64 h.ln, .int .i64 h.rf, .int .i64 h.sp, .int .i64 h.pu, .int .i64 h.br, .int .i64 h.dr, .int .i64 h.lv, .int .i64 h.dO, .int .i64 h.ld, .int .i64 h.qu] 25)) s _ _ (by simp)).alloc _).alloc _
  have F2 : Hid (XW ((((w.alloc (.cells #[.int .i64 h.fl, .int .i64 h.gp, .int .i64 h.ln, .int .i64 h.rf, .int .i64 h.sp, .int .i64 h.pu, .int .i64 h.br, .int .i64 h.dr, .int .i64 h.lv, .int .i64 h.dO, .int .i64 h.ld, .int .i64 h.qu] 25)).alloc (.cells #[.int .i64 s.lo.pos, .int .i64 s.lo.vel, .int .i64 s.lo.door, .int .i64 s.up.pos, .int .i64 s.up.vel, .int .i64 s.up.door] 40)).alloc (.cells #[.int .i64 a.push, .bool a.brk, .bool a.opn] 29)).alloc (.cells #[.int .i64 b.push, .bool b.brk, .bool b.opn] 29)) (w.heap.size + 2) a) := (XW.at_ ((w.alloc (.cells #[.int .i64 h.fl, .int .i64 h.gp, .int .i64 h.ln, .int .i64 h.rf, .int .i64 h.sp, .int .i64 h.pu, .int .i64 h.br, .int .i64 h.dr, .int .i64 h.lv, .int .i64 h.dO, .int .i64 h.ld, .int .i64 h.qu] 25)).alloc (.cells #[.int .i64 s.lo.pos, .int .i64 s.lo.vel, .int .i64 s.lo.door, .int .i64 s.up.pos, .int .i64 s.up.vel, .int .i64 s.up.door] 40)) a _ _ (by simp)).alloc _
  have F3 : Hid (XW ((((w.alloc (.cells #[.int .i64 h.fl, .int .i64 h.gp, .int .i64 h.ln, .int .i64 h.rf, .int .i64 h.sp, .int .i64 h.pu, .int .i64 h.br, .int .i64 h.dr, .int .i64 h.lv, .int .i64 h.dO, .int .i64 h.ld, .int .i64 h.qu] 25)).alloc (.cells #[.int .i64 s.lo.pos, .int .i64 s.lo.vel, .int .i64 s.lo.door, .int .i64 s.up.pos, .int .i64 s.up.vel, .int .i64 s.up.door] 40)).alloc (.cells #[.int .i64 a.push, .bool a.brk, .bool a.opn] 29)).alloc (.cells #[.int .i64 b.push, .bool b.brk, .bool b.opn] 29)) (w.heap.size + 3) b) := XW.at_ (((w.alloc (.cells #[.int .i64 h.fl, .int .i64 h.gp, .int .i64 h.ln, .int .i64 h.rf, .int .i64 h.sp, .int .i64 h.pu, .int .i64 h.br, .int .i64 h.dr, .int .i64 h.lv, .int .i64 h.dO, .int .i64 h.ld, .int .i64 h.qu] 25)).alloc (.cells #[.int .i64 s.lo.pos, .int .i64 s.lo.vel, .int .i64 s.lo.door, .int .i64 s.up.pos, .int .i64 s.up.vel, .int .i64 s.up.door] 40)).alloc (.cells #[.int .i64 a.push, .bool a.brk, .bool a.opn] 29)) b _ _ (by simp)
  have FB : Hid (Below w.heap.size w ((((w.alloc (.cells #[.int .i64 h.fl, .int .i64 h.gp, .int .i64 h.ln, .int .i64 h.rf, .int .i64 h.sp, .int .i64 h.pu, .int .i64 h.br, .int .i64 h.dr, .int .i64 h.lv, .int .i64 h.dO, .int .i64 h.ld, .int .i64 h.qu] 25)).alloc (.cells #[.int .i64 s.lo.pos, .int .i64 s.lo.vel, .int .i64 s.lo.door, .int .i64 s.up.pos, .int .i64 s.up.vel, .int .i64 s.up.door] 40)).alloc (.cells #[.int .i64 a.push, .bool a.brk, .bool a.opn] 29)).alloc (.cells #[.int .i64 b.push, .bool b.brk, .bool b.opn] 29))) := (((((Below.refl _ _).alloc (Nat.le_refl _) _).alloc (by simp <;> omega) _).alloc (by simp <;> omega) _).alloc (by simp <;> omega) _)
  rw [← hW0] at F0 F1 F2 F3 FB
  have HW0 : Hid (W0 = ((((w.alloc (.cells #[.int .i64 h.fl, .int .i64 h.gp, .int .i64 h.ln, .int .i64 h.rf, .int .i64 h.sp, .int .i64 h.pu, .int .i64 h.br, .int .i64 h.dr, .int .i64 h.lv, .int .i64 h.dO, .int .i64 h.ld, .int .i64 h.qu] 25)).alloc (.cells #[.int .i64 s.lo.pos, .int .i64 s.lo.vel, .int .i64 s.lo.door, .int .i64 s.up.pos, .int .i64 s.up.vel, .int .i64 s.up.door] 40)).alloc (.cells #[.int .i64 a.push, .bool a.brk, .bool a.opn] 29)).alloc (.cells #[.int .i64 b.push, .bool b.brk, .bool b.opn] 29))) := hW0
  clear hW0
  go_enter Try.func91, Try.ntmps91
  go_wp2_with fail
  rw [← HW0.out]
  clear HW0
  go_cut [22] (fun t wx => t = .bool n1 ∧ HAt wx w.heap.size h ∧ SW wx (w.heap.size + 1) s ∧ XW wx (w.heap.size + 2) a ∧ XW wx (w.heap.size + 3) b ∧ Below w.heap.size w wx)
  case first =>
    have F0 : Hid (HAt W0.drew w.heap.size h) := F0.out.below (Below.refl _ _).drew F0.out.lt
    have F1 : Hid (SW W0.drew (w.heap.size + 1) s) := F1.out.below (Below.refl _ _).drew F1.out.lt
    have F2 : Hid (XW W0.drew (w.heap.size + 2) a) := F2.out.below (Below.refl _ _).drew F2.out.lt
    have F3 : Hid (XW W0.drew (w.heap.size + 3) b) := F3.out.below (Below.refl _ _).drew F3.out.lt
    have FB : Hid (Below w.heap.size w W0.drew) := FB.out.drew
    obtain ⟨x0_0, x0_1, x0_2, x0_3, x0_4, x0_5, x0_6, x0_7, x0_8, x0_9, x0_10, x0_11⟩ := F0.out
    obtain ⟨x1_0, x1_1, x1_2, x1_3, x1_4, x1_5, y1_0, y1_1, y1_2, y1_3, y1_4, y1_5⟩ := F1.out
    obtain ⟨x2_0, x2_1, x2_2, y2_0, y2_1, y2_2⟩ := F2.out
    obtain ⟨x3_0, x3_1, x3_2, y3_0, y3_1, y3_2⟩ := F3.out
    refine wp_region_held_drew (S := (fun w'' => w''.cell? ⟨w.heap.size, 0, none⟩ = some (.int .i64 h.fl) ∧ w''.cell? ⟨w.heap.size, 1, none⟩ = some (.int .i64 h.gp) ∧ w''.cell? ⟨w.heap.size, 2, none⟩ = some (.int .i64 h.ln) ∧ w''.cell? ⟨w.heap.size, 3, none⟩ = some (.int .i64 h.rf) ∧ w''.cell? ⟨w.heap.size, 4, none⟩ = some (.int .i64 h.sp) ∧ w''.cell? ⟨w.heap.size, 5, none⟩ = some (.int .i64 h.pu) ∧ w''.cell? ⟨w.heap.size, 6, none⟩ = some (.int .i64 h.br) ∧ w''.cell? ⟨w.heap.size, 7, none⟩ = some (.int .i64 h.dr) ∧ w''.cell? ⟨w.heap.size, 8, none⟩ = some (.int .i64 h.lv) ∧ w''.cell? ⟨w.heap.size, 9, none⟩ = some (.int .i64 h.dO) ∧ w''.cell? ⟨w.heap.size, 10, none⟩ = some (.int .i64 h.ld) ∧ w''.cell? ⟨w.heap.size, 11, none⟩ = some (.int .i64 h.qu) ∧ w''.cell? ⟨(w.heap.size + 1), 0, none⟩ = some (.int .i64 s.lo.pos) ∧ w''.cell? ⟨(w.heap.size + 1), 1, none⟩ = some (.int .i64 s.lo.vel) ∧ w''.cell? ⟨(w.heap.size + 1), 2, none⟩ = some (.int .i64 s.lo.door) ∧ w''.cell? ⟨(w.heap.size + 1), 3, none⟩ = some (.int .i64 s.up.pos) ∧ w''.cell? ⟨(w.heap.size + 1), 4, none⟩ = some (.int .i64 s.up.vel) ∧ w''.cell? ⟨(w.heap.size + 1), 5, none⟩ = some (.int .i64 s.up.door) ∧ w''.cell? ⟨(w.heap.size + 2), 0, none⟩ = some (.int .i64 a.push) ∧ w''.cell? ⟨(w.heap.size + 2), 1, none⟩ = some (.bool a.brk) ∧ w''.cell? ⟨(w.heap.size + 2), 2, none⟩ = some (.bool a.opn) ∧ w''.cell? ⟨(w.heap.size + 3), 0, none⟩ = some (.int .i64 b.push) ∧ w''.cell? ⟨(w.heap.size + 3), 1, none⟩ = some (.bool b.brk) ∧ w''.cell? ⟨(w.heap.size + 3), 2, none⟩ = some (.bool b.opn))) (by kernel_rfl) (by (try dsimp only); first | exact ⟨x0_0, x0_1, x0_2, x0_3, x0_4, x0_5, x0_6, x0_7, x0_8, x0_9, x0_10, x0_11, x1_0, x1_1, x1_2, x1_3, x1_4, x1_5, x2_0, x2_1, x2_2, x3_0, x3_1, x3_2⟩ | go_keep) (fun hHeld => ?_)
    obtain ⟨v_1, hw1⟩ : ∃ v_1, v_1 = W0.drew := ⟨_, rfl⟩
    have F0 : Hid (HAt v_1 w.heap.size h) := by rw [hw1]; exact F0.out
    have F1 : Hid (SW v_1 (w.heap.size + 1) s) := by rw [hw1]; exact F1.out
    have F2 : Hid (XW v_1 (w.heap.size + 2) a) := by rw [hw1]; exact F2.out
    have F3 : Hid (XW v_1 (w.heap.size + 3) b) := by rw [hw1]; exact F3.out
    have FB : Hid (Below w.heap.size w v_1) := by rw [hw1]; exact FB.out
    rw [← hw1] at hHeld ⊢
    clear hw1
    obtain ⟨x0_0, x0_1, x0_2, x0_3, x0_4, x0_5, x0_6, x0_7, x0_8, x0_9, x0_10, x0_11⟩ := F0.out
    obtain ⟨x1_0, x1_1, x1_2, x1_3, x1_4, x1_5, y1_0, y1_1, y1_2, y1_3, y1_4, y1_5⟩ := F1.out
    obtain ⟨x2_0, x2_1, x2_2, y2_0, y2_1, y2_2⟩ := F2.out
    obtain ⟨x3_0, x3_1, x3_2, y3_0, y3_1, y3_2⟩ := F3.out
    refine tkz 0 rfl ?_
    refine tkz 1 rfl ?_
    refine tkz 2 rfl ?_
    refine tkz 3 rfl ?_
    refine tkz 5 rfl ?_
    refine tkz 6 rfl ?_
    refine tkz 7 rfl ?_
    refine tkz 8 rfl ?_
    refine tkz 11 rfl ?_
    refine tkz 12 rfl ?_
    refine wpAnyH_ready (rs := [4]) (by kernel_rfl) (by simp) ?_
    refine (AllReadyH.cons rfl (fun K hK => ?_) AllReadyH.nil)
    go_simp
    refine (l5Low_any h s.up b HU.out HB.out.1 HB.out.2 _).mono ?_
    rintro e v_2 ⟨rfl, hb⟩
    have F0 : Hid (HAt v_2 w.heap.size h) := F0.out.below hb F0.out.lt
    have F1 : Hid (SW v_2 (w.heap.size + 1) s) := F1.out.below hb F1.out.lt
    have F2 : Hid (XW v_2 (w.heap.size + 2) a) := F2.out.below hb F2.out.lt
    have F3 : Hid (XW v_2 (w.heap.size + 3) b) := F3.out.below hb F3.out.lt
    have FB : Hid (Below w.heap.size w v_2) := FB.out.trans (hb.mono FB.out.size)
    clear hb
    obtain ⟨x0_0, x0_1, x0_2, x0_3, x0_4, x0_5, x0_6, x0_7, x0_8, x0_9, x0_10, x0_11⟩ := F0.out
    obtain ⟨x1_0, x1_1, x1_2, x1_3, x1_4, x1_5, y1_0, y1_1, y1_2, y1_3, y1_4, y1_5⟩ := F1.out
    obtain ⟨x2_0, x2_1, x2_2, y2_0, y2_1, y2_2⟩ := F2.out
    obtain ⟨x3_0, x3_1, x3_2, y3_0, y3_1, y3_2⟩ := F3.out
    try dsimp only
    refine hK.out _ _ (by (try dsimp only); first | exact ⟨x0_0, x0_1, x0_2, x0_3, x0_4, x0_5, x0_6, x0_7, x0_8, x0_9, x0_10, x0_11, x1_0, x1_1, x1_2, x1_3, x1_4, x1_5, x2_0, x2_1, x2_2, x3_0, x3_1, x3_2⟩ | go_keep) (fun hHeld => ?_)
    clear hK K
    try simp only [Act.put, List.getElem_toArray, List.getElem_cons_succ, List.getElem_cons_zero, List.setIfInBounds_toArray, List.set_cons_zero, List.set_cons_succ]
    refine wpAnyH_ready (rs := [9]) (by kernel_rfl) (by simp) ?_
    refine (AllReadyH.cons rfl (fun K hK => ?_) AllReadyH.nil)
    go_simp
    refine (l5High_any h s.lo a HL.out HA.out.1 HA.out.2 _).mono ?_
    rintro e v_3 ⟨rfl, hb⟩
    have F0 : Hid (HAt v_3 w.heap.size h) := F0.out.below hb F0.out.lt
    have F1 : Hid (SW v_3 (w.heap.size + 1) s) := F1.out.below hb F1.out.lt
    have F2 : Hid (XW v_3 (w.heap.size + 2) a) := F2.out.below hb F2.out.lt
    have F3 : Hid (XW v_3 (w.heap.size + 3) b) := F3.out.below hb F3.out.lt
    have FB : Hid (Below w.heap.size w v_3) := FB.out.trans (hb.mono FB.out.size)
    clear hb
    obtain ⟨x0_0, x0_1, x0_2, x0_3, x0_4, x0_5, x0_6, x0_7, x0_8, x0_9, x0_10, x0_11⟩ := F0.out
    obtain ⟨x1_0, x1_1, x1_2, x1_3, x1_4, x1_5, y1_0, y1_1, y1_2, y1_3, y1_4, y1_5⟩ := F1.out
    obtain ⟨x2_0, x2_1, x2_2, y2_0, y2_1, y2_2⟩ := F2.out
    obtain ⟨x3_0, x3_1, x3_2, y3_0, y3_1, y3_2⟩ := F3.out
    try dsimp only
    refine hK.out _ _ (by (try dsimp only); first | exact ⟨x0_0, x0_1, x0_2, x0_3, x0_4, x0_5, x0_6, x0_7, x0_8, x0_9, x0_10, x0_11, x1_0, x1_1, x1_2, x1_3, x1_4, x1_5, x2_0, x2_1, x2_2, x3_0, x3_1, x3_2⟩ | go_keep) (fun hHeld => ?_)
    clear hK K
    try simp only [Act.put, List.getElem_toArray, List.getElem_cons_succ, List.getElem_cons_zero, List.setIfInBounds_toArray, List.set_cons_zero, List.set_cons_succ]
    refine tkz 10 rfl ?_
    refine tkz 13 rfl ?_
    refine wpAnyH_done (by kernel_rfl) ?_ _
    go_wp2_with fail
    go_meet
    case rel => exact ⟨by rw [HN.out], F0.out, F1.out, F2.out, F3.out, FB.out⟩
  case rest =>
    obtain ⟨rfl, h0, h1, h2, h3, h4⟩ := hcut
    have F0 : Hid (HAt wc w.heap.size h) := h0
    have F1 : Hid (SW wc (w.heap.size + 1) s) := h1
    have F2 : Hid (XW wc (w.heap.size + 2) a) := h2
    have F3 : Hid (XW wc (w.heap.size + 3) b) := h3
    have FB : Hid (Below w.heap.size w wc) := h4
    clear h0 h1 h2 h3 h4 HN
    cases n1 with
    | true =>
      go_wp2
      go_ret
      exact ⟨ret_bool (by rw [HE.out]; rfl), FB.out⟩
    | false =>
      go_wp2_with fail
      cases n2 : decide (Hs.wh h s.up b ≤ h.high) with
      | false =>
        have F0 : Hid (HAt wc.drew w.heap.size h) := F0.out.below (Below.refl _ _).drew F0.out.lt
        have F1 : Hid (SW wc.drew (w.heap.size + 1) s) := F1.out.below (Below.refl _ _).drew F1.out.lt
        have F2 : Hid (XW wc.drew (w.heap.size + 2) a) := F2.out.below (Below.refl _ _).drew F2.out.lt
        have F3 : Hid (XW wc.drew (w.heap.size + 3) b) := F3.out.below (Below.refl _ _).drew F3.out.lt
        have FB : Hid (Below w.heap.size w wc.drew) := FB.out.drew
        obtain ⟨x0_0, x0_1, x0_2, x0_3, x0_4, x0_5, x0_6, x0_7, x0_8, x0_9, x0_10, x0_11⟩ := F0.out
        obtain ⟨x1_0, x1_1, x1_2, x1_3, x1_4, x1_5, y1_0, y1_1, y1_2, y1_3, y1_4, y1_5⟩ := F1.out
        obtain ⟨x2_0, x2_1, x2_2, y2_0, y2_1, y2_2⟩ := F2.out
        obtain ⟨x3_0, x3_1, x3_2, y3_0, y3_1, y3_2⟩ := F3.out
        refine wp_region_held_drew (S := (fun w'' => w''.cell? ⟨w.heap.size, 0, none⟩ = some (.int .i64 h.fl) ∧ w''.cell? ⟨w.heap.size, 1, none⟩ = some (.int .i64 h.gp) ∧ w''.cell? ⟨w.heap.size, 2, none⟩ = some (.int .i64 h.ln) ∧ w''.cell? ⟨w.heap.size, 3, none⟩ = some (.int .i64 h.rf) ∧ w''.cell? ⟨w.heap.size, 4, none⟩ = some (.int .i64 h.sp) ∧ w''.cell? ⟨w.heap.size, 5, none⟩ = some (.int .i64 h.pu) ∧ w''.cell? ⟨w.heap.size, 6, none⟩ = some (.int .i64 h.br) ∧ w''.cell? ⟨w.heap.size, 7, none⟩ = some (.int .i64 h.dr) ∧ w''.cell? ⟨w.heap.size, 8, none⟩ = some (.int .i64 h.lv) ∧ w''.cell? ⟨w.heap.size, 9, none⟩ = some (.int .i64 h.dO) ∧ w''.cell? ⟨w.heap.size, 10, none⟩ = some (.int .i64 h.ld) ∧ w''.cell? ⟨w.heap.size, 11, none⟩ = some (.int .i64 h.qu) ∧ w''.cell? ⟨(w.heap.size + 1), 0, none⟩ = some (.int .i64 s.lo.pos) ∧ w''.cell? ⟨(w.heap.size + 1), 1, none⟩ = some (.int .i64 s.lo.vel) ∧ w''.cell? ⟨(w.heap.size + 1), 2, none⟩ = some (.int .i64 s.lo.door) ∧ w''.cell? ⟨(w.heap.size + 1), 3, none⟩ = some (.int .i64 s.up.pos) ∧ w''.cell? ⟨(w.heap.size + 1), 4, none⟩ = some (.int .i64 s.up.vel) ∧ w''.cell? ⟨(w.heap.size + 1), 5, none⟩ = some (.int .i64 s.up.door) ∧ w''.cell? ⟨(w.heap.size + 2), 0, none⟩ = some (.int .i64 a.push) ∧ w''.cell? ⟨(w.heap.size + 2), 1, none⟩ = some (.bool a.brk) ∧ w''.cell? ⟨(w.heap.size + 2), 2, none⟩ = some (.bool a.opn) ∧ w''.cell? ⟨(w.heap.size + 3), 0, none⟩ = some (.int .i64 b.push) ∧ w''.cell? ⟨(w.heap.size + 3), 1, none⟩ = some (.bool b.brk) ∧ w''.cell? ⟨(w.heap.size + 3), 2, none⟩ = some (.bool b.opn))) (by kernel_rfl) (by (try dsimp only); first | exact ⟨x0_0, x0_1, x0_2, x0_3, x0_4, x0_5, x0_6, x0_7, x0_8, x0_9, x0_10, x0_11, x1_0, x1_1, x1_2, x1_3, x1_4, x1_5, x2_0, x2_1, x2_2, x3_0, x3_1, x3_2⟩ | go_keep) (fun hHeld => ?_)
        obtain ⟨v_4, hw1⟩ : ∃ v_4, v_4 = wc.drew := ⟨_, rfl⟩
        have F0 : Hid (HAt v_4 w.heap.size h) := by rw [hw1]; exact F0.out
        have F1 : Hid (SW v_4 (w.heap.size + 1) s) := by rw [hw1]; exact F1.out
        have F2 : Hid (XW v_4 (w.heap.size + 2) a) := by rw [hw1]; exact F2.out
        have F3 : Hid (XW v_4 (w.heap.size + 3) b) := by rw [hw1]; exact F3.out
        have FB : Hid (Below w.heap.size w v_4) := by rw [hw1]; exact FB.out
        rw [← hw1] at hHeld ⊢
        clear hw1
        obtain ⟨x0_0, x0_1, x0_2, x0_3, x0_4, x0_5, x0_6, x0_7, x0_8, x0_9, x0_10, x0_11⟩ := F0.out
        obtain ⟨x1_0, x1_1, x1_2, x1_3, x1_4, x1_5, y1_0, y1_1, y1_2, y1_3, y1_4, y1_5⟩ := F1.out
        obtain ⟨x2_0, x2_1, x2_2, y2_0, y2_1, y2_2⟩ := F2.out
        obtain ⟨x3_0, x3_1, x3_2, y3_0, y3_1, y3_2⟩ := F3.out
        refine tkz 0 rfl ?_
        refine tkz 1 rfl ?_
        refine tkz 2 rfl ?_
        refine tkz 3 rfl ?_
        refine tkz 5 rfl ?_
        refine wpAnyH_ready (rs := [4]) (by kernel_rfl) (by simp) ?_
        refine (AllReadyH.cons rfl (fun K hK => ?_) AllReadyH.nil)
        go_simp
        refine (l5High_any h s.up b HU.out HB.out.1 HB.out.2 _).mono ?_
        rintro e v_5 ⟨rfl, hb⟩
        have F0 : Hid (HAt v_5 w.heap.size h) := F0.out.below hb F0.out.lt
        have F1 : Hid (SW v_5 (w.heap.size + 1) s) := F1.out.below hb F1.out.lt
        have F2 : Hid (XW v_5 (w.heap.size + 2) a) := F2.out.below hb F2.out.lt
        have F3 : Hid (XW v_5 (w.heap.size + 3) b) := F3.out.below hb F3.out.lt
        have FB : Hid (Below w.heap.size w v_5) := FB.out.trans (hb.mono FB.out.size)
        clear hb
        obtain ⟨x0_0, x0_1, x0_2, x0_3, x0_4, x0_5, x0_6, x0_7, x0_8, x0_9, x0_10, x0_11⟩ := F0.out
        obtain ⟨x1_0, x1_1, x1_2, x1_3, x1_4, x1_5, y1_0, y1_1, y1_2, y1_3, y1_4, y1_5⟩ := F1.out
        obtain ⟨x2_0, x2_1, x2_2, y2_0, y2_1, y2_2⟩ := F2.out
        obtain ⟨x3_0, x3_1, x3_2, y3_0, y3_1, y3_2⟩ := F3.out
        try dsimp only
        refine hK.out _ _ (by (try dsimp only); first | exact ⟨x0_0, x0_1, x0_2, x0_3, x0_4, x0_5, x0_6, x0_7, x0_8, x0_9, x0_10, x0_11, x1_0, x1_1, x1_2, x1_3, x1_4, x1_5, x2_0, x2_1, x2_2, x3_0, x3_1, x3_2⟩ | go_keep) (fun hHeld => ?_)
        clear hK K
        try simp only [Act.put, List.getElem_toArray, List.getElem_cons_succ, List.getElem_cons_zero, List.setIfInBounds_toArray, List.set_cons_zero, List.set_cons_succ]
        refine wpAnyH_ready (rs := [6]) (by kernel_rfl) (by simp) ?_
        refine (AllReadyH.cons rfl (fun K hK => ?_) AllReadyH.nil)
        go_simp
        refine (specHigh_below h HO.out _).mono ?_
        rintro e v_6 ⟨rfl, hb⟩
        have F0 : Hid (HAt v_6 w.heap.size h) := F0.out.below hb F0.out.lt
        have F1 : Hid (SW v_6 (w.heap.size + 1) s) := F1.out.below hb F1.out.lt
        have F2 : Hid (XW v_6 (w.heap.size + 2) a) := F2.out.below hb F2.out.lt
        have F3 : Hid (XW v_6 (w.heap.size + 3) b) := F3.out.below hb F3.out.lt
        have FB : Hid (Below w.heap.size w v_6) := FB.out.trans (hb.mono FB.out.size)
        clear hb
        obtain ⟨x0_0, x0_1, x0_2, x0_3, x0_4, x0_5, x0_6, x0_7, x0_8, x0_9, x0_10, x0_11⟩ := F0.out
        obtain ⟨x1_0, x1_1, x1_2, x1_3, x1_4, x1_5, y1_0, y1_1, y1_2, y1_3, y1_4, y1_5⟩ := F1.out
        obtain ⟨x2_0, x2_1, x2_2, y2_0, y2_1, y2_2⟩ := F2.out
        obtain ⟨x3_0, x3_1, x3_2, y3_0, y3_1, y3_2⟩ := F3.out
        try dsimp only
        refine hK.out _ _ (by (try dsimp only); first | exact ⟨x0_0, x0_1, x0_2, x0_3, x0_4, x0_5, x0_6, x0_7, x0_8, x0_9, x0_10, x0_11, x1_0, x1_1, x1_2, x1_3, x1_4, x1_5, x2_0, x2_1, x2_2, x3_0, x3_1, x3_2⟩ | go_keep) (fun hHeld => ?_)
        clear hK K
        try simp only [Act.put, List.getElem_toArray, List.getElem_cons_succ, List.getElem_cons_zero, List.setIfInBounds_toArray, List.set_cons_zero, List.set_cons_succ]
        refine tkz 7 rfl ?_
        refine tkz 8 rfl ?_
        refine tbz 9 rfl ?_
        refine tbz 10 rfl ?_
        refine tbz 11 rfl ?_
        refine tbz 12 rfl ?_
        refine tbz 13 rfl ?_
        refine tbz 14 rfl ?_
        refine tbz 15 rfl ?_
        refine tbz 16 rfl ?_
        refine tkz 17 rfl ?_
        refine tkz 18 rfl ?_
        refine wpAnyH_done (by kernel_rfl) ?_ _
        go_wp2
        go_ret
        exact ⟨ret_bool (by rw [HE.out, n2]; rfl), FB.out⟩
      | true =>
        have F0 : Hid (HAt wc.drew w.heap.size h) := F0.out.below (Below.refl _ _).drew F0.out.lt
        have F1 : Hid (SW wc.drew (w.heap.size + 1) s) := F1.out.below (Below.refl _ _).drew F1.out.lt
        have F2 : Hid (XW wc.drew (w.heap.size + 2) a) := F2.out.below (Below.refl _ _).drew F2.out.lt
        have F3 : Hid (XW wc.drew (w.heap.size + 3) b) := F3.out.below (Below.refl _ _).drew F3.out.lt
        have FB : Hid (Below w.heap.size w wc.drew) := FB.out.drew
        obtain ⟨x0_0, x0_1, x0_2, x0_3, x0_4, x0_5, x0_6, x0_7, x0_8, x0_9, x0_10, x0_11⟩ := F0.out
        obtain ⟨x1_0, x1_1, x1_2, x1_3, x1_4, x1_5, y1_0, y1_1, y1_2, y1_3, y1_4, y1_5⟩ := F1.out
        obtain ⟨x2_0, x2_1, x2_2, y2_0, y2_1, y2_2⟩ := F2.out
        obtain ⟨x3_0, x3_1, x3_2, y3_0, y3_1, y3_2⟩ := F3.out
        refine wp_region_held_drew (S := (fun w'' => w''.cell? ⟨w.heap.size, 0, none⟩ = some (.int .i64 h.fl) ∧ w''.cell? ⟨w.heap.size, 1, none⟩ = some (.int .i64 h.gp) ∧ w''.cell? ⟨w.heap.size, 2, none⟩ = some (.int .i64 h.ln) ∧ w''.cell? ⟨w.heap.size, 3, none⟩ = some (.int .i64 h.rf) ∧ w''.cell? ⟨w.heap.size, 4, none⟩ = some (.int .i64 h.sp) ∧ w''.cell? ⟨w.heap.size, 5, none⟩ = some (.int .i64 h.pu) ∧ w''.cell? ⟨w.heap.size, 6, none⟩ = some (.int .i64 h.br) ∧ w''.cell? ⟨w.heap.size, 7, none⟩ = some (.int .i64 h.dr) ∧ w''.cell? ⟨w.heap.size, 8, none⟩ = some (.int .i64 h.lv) ∧ w''.cell? ⟨w.heap.size, 9, none⟩ = some (.int .i64 h.dO) ∧ w''.cell? ⟨w.heap.size, 10, none⟩ = some (.int .i64 h.ld) ∧ w''.cell? ⟨w.heap.size, 11, none⟩ = some (.int .i64 h.qu) ∧ w''.cell? ⟨(w.heap.size + 1), 0, none⟩ = some (.int .i64 s.lo.pos) ∧ w''.cell? ⟨(w.heap.size + 1), 1, none⟩ = some (.int .i64 s.lo.vel) ∧ w''.cell? ⟨(w.heap.size + 1), 2, none⟩ = some (.int .i64 s.lo.door) ∧ w''.cell? ⟨(w.heap.size + 1), 3, none⟩ = some (.int .i64 s.up.pos) ∧ w''.cell? ⟨(w.heap.size + 1), 4, none⟩ = some (.int .i64 s.up.vel) ∧ w''.cell? ⟨(w.heap.size + 1), 5, none⟩ = some (.int .i64 s.up.door) ∧ w''.cell? ⟨(w.heap.size + 2), 0, none⟩ = some (.int .i64 a.push) ∧ w''.cell? ⟨(w.heap.size + 2), 1, none⟩ = some (.bool a.brk) ∧ w''.cell? ⟨(w.heap.size + 2), 2, none⟩ = some (.bool a.opn) ∧ w''.cell? ⟨(w.heap.size + 3), 0, none⟩ = some (.int .i64 b.push) ∧ w''.cell? ⟨(w.heap.size + 3), 1, none⟩ = some (.bool b.brk) ∧ w''.cell? ⟨(w.heap.size + 3), 2, none⟩ = some (.bool b.opn))) (by kernel_rfl) (by (try dsimp only); first | exact ⟨x0_0, x0_1, x0_2, x0_3, x0_4, x0_5, x0_6, x0_7, x0_8, x0_9, x0_10, x0_11, x1_0, x1_1, x1_2, x1_3, x1_4, x1_5, x2_0, x2_1, x2_2, x3_0, x3_1, x3_2⟩ | go_keep) (fun hHeld => ?_)
        obtain ⟨v_7, hw1⟩ : ∃ v_7, v_7 = wc.drew := ⟨_, rfl⟩
        have F0 : Hid (HAt v_7 w.heap.size h) := by rw [hw1]; exact F0.out
        have F1 : Hid (SW v_7 (w.heap.size + 1) s) := by rw [hw1]; exact F1.out
        have F2 : Hid (XW v_7 (w.heap.size + 2) a) := by rw [hw1]; exact F2.out
        have F3 : Hid (XW v_7 (w.heap.size + 3) b) := by rw [hw1]; exact F3.out
        have FB : Hid (Below w.heap.size w v_7) := by rw [hw1]; exact FB.out
        rw [← hw1] at hHeld ⊢
        clear hw1
        obtain ⟨x0_0, x0_1, x0_2, x0_3, x0_4, x0_5, x0_6, x0_7, x0_8, x0_9, x0_10, x0_11⟩ := F0.out
        obtain ⟨x1_0, x1_1, x1_2, x1_3, x1_4, x1_5, y1_0, y1_1, y1_2, y1_3, y1_4, y1_5⟩ := F1.out
        obtain ⟨x2_0, x2_1, x2_2, y2_0, y2_1, y2_2⟩ := F2.out
        obtain ⟨x3_0, x3_1, x3_2, y3_0, y3_1, y3_2⟩ := F3.out
        refine tkz 0 rfl ?_
        refine tkz 1 rfl ?_
        refine tkz 2 rfl ?_
        refine tkz 3 rfl ?_
        refine tkz 5 rfl ?_
        refine wpAnyH_ready (rs := [4]) (by kernel_rfl) (by simp) ?_
        refine (AllReadyH.cons rfl (fun K hK => ?_) AllReadyH.nil)
        go_simp
        refine (l5High_any h s.up b HU.out HB.out.1 HB.out.2 _).mono ?_
        rintro e v_8 ⟨rfl, hb⟩
        have F0 : Hid (HAt v_8 w.heap.size h) := F0.out.below hb F0.out.lt
        have F1 : Hid (SW v_8 (w.heap.size + 1) s) := F1.out.below hb F1.out.lt
        have F2 : Hid (XW v_8 (w.heap.size + 2) a) := F2.out.below hb F2.out.lt
        have F3 : Hid (XW v_8 (w.heap.size + 3) b) := F3.out.below hb F3.out.lt
        have FB : Hid (Below w.heap.size w v_8) := FB.out.trans (hb.mono FB.out.size)
        clear hb
        obtain ⟨x0_0, x0_1, x0_2, x0_3, x0_4, x0_5, x0_6, x0_7, x0_8, x0_9, x0_10, x0_11⟩ := F0.out
        obtain ⟨x1_0, x1_1, x1_2, x1_3, x1_4, x1_5, y1_0, y1_1, y1_2, y1_3, y1_4, y1_5⟩ := F1.out
        obtain ⟨x2_0, x2_1, x2_2, y2_0, y2_1, y2_2⟩ := F2.out
        obtain ⟨x3_0, x3_1, x3_2, y3_0, y3_1, y3_2⟩ := F3.out
        try dsimp only
        refine hK.out _ _ (by (try dsimp only); first | exact ⟨x0_0, x0_1, x0_2, x0_3, x0_4, x0_5, x0_6, x0_7, x0_8, x0_9, x0_10, x0_11, x1_0, x1_1, x1_2, x1_3, x1_4, x1_5, x2_0, x2_1, x2_2, x3_0, x3_1, x3_2⟩ | go_keep) (fun hHeld => ?_)
        clear hK K
        try simp only [Act.put, List.getElem_toArray, List.getElem_cons_succ, List.getElem_cons_zero, List.setIfInBounds_toArray, List.set_cons_zero, List.set_cons_succ]
        refine wpAnyH_ready (rs := [6]) (by kernel_rfl) (by simp) ?_
        refine (AllReadyH.cons rfl (fun K hK => ?_) AllReadyH.nil)
        go_simp
        refine (specHigh_below h HO.out _).mono ?_
        rintro e v_9 ⟨rfl, hb⟩
        have F0 : Hid (HAt v_9 w.heap.size h) := F0.out.below hb F0.out.lt
        have F1 : Hid (SW v_9 (w.heap.size + 1) s) := F1.out.below hb F1.out.lt
        have F2 : Hid (XW v_9 (w.heap.size + 2) a) := F2.out.below hb F2.out.lt
        have F3 : Hid (XW v_9 (w.heap.size + 3) b) := F3.out.below hb F3.out.lt
        have FB : Hid (Below w.heap.size w v_9) := FB.out.trans (hb.mono FB.out.size)
        clear hb
        obtain ⟨x0_0, x0_1, x0_2, x0_3, x0_4, x0_5, x0_6, x0_7, x0_8, x0_9, x0_10, x0_11⟩ := F0.out
        obtain ⟨x1_0, x1_1, x1_2, x1_3, x1_4, x1_5, y1_0, y1_1, y1_2, y1_3, y1_4, y1_5⟩ := F1.out
        obtain ⟨x2_0, x2_1, x2_2, y2_0, y2_1, y2_2⟩ := F2.out
        obtain ⟨x3_0, x3_1, x3_2, y3_0, y3_1, y3_2⟩ := F3.out
        try dsimp only
        refine hK.out _ _ (by (try dsimp only); first | exact ⟨x0_0, x0_1, x0_2, x0_3, x0_4, x0_5, x0_6, x0_7, x0_8, x0_9, x0_10, x0_11, x1_0, x1_1, x1_2, x1_3, x1_4, x1_5, x2_0, x2_1, x2_2, x3_0, x3_1, x3_2⟩ | go_keep) (fun hHeld => ?_)
        clear hK K
        try simp only [Act.put, List.getElem_toArray, List.getElem_cons_succ, List.getElem_cons_zero, List.setIfInBounds_toArray, List.set_cons_zero, List.set_cons_succ]
        refine tkz 7 rfl ?_
        refine tkz 8 rfl ?_
        refine tkz 9 rfl ?_
        refine tkz 10 rfl ?_
        refine tkz 11 rfl ?_
        refine tkz 12 rfl ?_
        refine tkz 14 rfl ?_
        refine wpAnyH_ready (rs := [13]) (by kernel_rfl) (by simp) ?_
        refine (AllReadyH.cons rfl (fun K hK => ?_) AllReadyH.nil)
        go_simp
        refine (l5Low_any h s.lo a HL.out HA.out.1 HA.out.2 _).mono ?_
        rintro e v_10 ⟨rfl, hb⟩
        have F0 : Hid (HAt v_10 w.heap.size h) := F0.out.below hb F0.out.lt
        have F1 : Hid (SW v_10 (w.heap.size + 1) s) := F1.out.below hb F1.out.lt
        have F2 : Hid (XW v_10 (w.heap.size + 2) a) := F2.out.below hb F2.out.lt
        have F3 : Hid (XW v_10 (w.heap.size + 3) b) := F3.out.below hb F3.out.lt
        have FB : Hid (Below w.heap.size w v_10) := FB.out.trans (hb.mono FB.out.size)
        clear hb
        obtain ⟨x0_0, x0_1, x0_2, x0_3, x0_4, x0_5, x0_6, x0_7, x0_8, x0_9, x0_10, x0_11⟩ := F0.out
        obtain ⟨x1_0, x1_1, x1_2, x1_3, x1_4, x1_5, y1_0, y1_1, y1_2, y1_3, y1_4, y1_5⟩ := F1.out
        obtain ⟨x2_0, x2_1, x2_2, y2_0, y2_1, y2_2⟩ := F2.out
        obtain ⟨x3_0, x3_1, x3_2, y3_0, y3_1, y3_2⟩ := F3.out
        try dsimp only
        refine hK.out _ _ (by (try dsimp only); first | exact ⟨x0_0, x0_1, x0_2, x0_3, x0_4, x0_5, x0_6, x0_7, x0_8, x0_9, x0_10, x0_11, x1_0, x1_1, x1_2, x1_3, x1_4, x1_5, x2_0, x2_1, x2_2, x3_0, x3_1, x3_2⟩ | go_keep) (fun hHeld => ?_)
        clear hK K
        try simp only [Act.put, List.getElem_toArray, List.getElem_cons_succ, List.getElem_cons_zero, List.setIfInBounds_toArray, List.set_cons_zero, List.set_cons_succ]
        refine wpAnyH_ready (rs := [15]) (by kernel_rfl) (by simp) ?_
        refine (AllReadyH.cons rfl (fun K hK => ?_) AllReadyH.nil)
        go_simp
        refine (specLow_below h HO.out _).mono ?_
        rintro e v_11 ⟨rfl, hb⟩
        have F0 : Hid (HAt v_11 w.heap.size h) := F0.out.below hb F0.out.lt
        have F1 : Hid (SW v_11 (w.heap.size + 1) s) := F1.out.below hb F1.out.lt
        have F2 : Hid (XW v_11 (w.heap.size + 2) a) := F2.out.below hb F2.out.lt
        have F3 : Hid (XW v_11 (w.heap.size + 3) b) := F3.out.below hb F3.out.lt
        have FB : Hid (Below w.heap.size w v_11) := FB.out.trans (hb.mono FB.out.size)
        clear hb
        obtain ⟨x0_0, x0_1, x0_2, x0_3, x0_4, x0_5, x0_6, x0_7, x0_8, x0_9, x0_10, x0_11⟩ := F0.out
        obtain ⟨x1_0, x1_1, x1_2, x1_3, x1_4, x1_5, y1_0, y1_1, y1_2, y1_3, y1_4, y1_5⟩ := F1.out
        obtain ⟨x2_0, x2_1, x2_2, y2_0, y2_1, y2_2⟩ := F2.out
        obtain ⟨x3_0, x3_1, x3_2, y3_0, y3_1, y3_2⟩ := F3.out
        try dsimp only
        refine hK.out _ _ (by (try dsimp only); first | exact ⟨x0_0, x0_1, x0_2, x0_3, x0_4, x0_5, x0_6, x0_7, x0_8, x0_9, x0_10, x0_11, x1_0, x1_1, x1_2, x1_3, x1_4, x1_5, x2_0, x2_1, x2_2, x3_0, x3_1, x3_2⟩ | go_keep) (fun hHeld => ?_)
        clear hK K
        try simp only [Act.put, List.getElem_toArray, List.getElem_cons_succ, List.getElem_cons_zero, List.setIfInBounds_toArray, List.set_cons_zero, List.set_cons_succ]
        refine tkz 16 rfl ?_
        refine tkz 17 rfl ?_
        refine tkz 18 rfl ?_
        refine wpAnyH_done (by kernel_rfl) ?_ _
        go_wp2
        go_ret
        exact ⟨ret_bool (by rw [HE.out, n2]; rfl), FB.out⟩
set_option maxRecDepth 20000 in
set_option maxHeartbeats 8000000 in
theorem l5Pair_any (h : Hs) (s : Sh) (a b : Cm) (w : World) :
    Calls Try.prog 39 #[.agg #[.int .i64 h.fl, .int .i64 h.gp, .int .i64 h.ln, .int .i64 h.rf, .int .i64 h.sp, .int .i64 h.pu, .int .i64 h.br, .int .i64 h.dr, .int .i64 h.lv, .int .i64 h.dO, .int .i64 h.ld, .int .i64 h.qu], .agg #[.int .i64 s.lo.pos, .int .i64 s.lo.vel, .int .i64 s.lo.door, .int .i64 s.up.pos, .int .i64 s.up.vel, .int .i64 s.up.door], .agg #[.int .i64 a.push, .bool a.brk, .bool a.opn], .agg #[.int .i64 b.push, .bool b.brk, .bool b.opn]] w fun e w' => e = .returned (.int .i64 (Hs.pairK h s a b)) ∧ Below w.heap.size w w' := by
  unfold Hs.pairK
  have F0 : Hid (HAt ((((w.alloc (.cells #[.int .i64 h.fl, .int .i64 h.gp, .int .i64 h.ln, .int .i64 h.rf, .int .i64 h.sp, .int .i64 h.pu, .int .i64 h.br, .int .i64 h.dr, .int .i64 h.lv, .int .i64 h.dO, .int .i64 h.ld, .int .i64 h.qu] 25)).alloc (.cells #[.int .i64 s.lo.pos, .int .i64 s.lo.vel, .int .i64 s.lo.door, .int .i64 s.up.pos, .int .i64 s.up.vel, .int .i64 s.up.door] 40)).alloc (.cells #[.int .i64 a.push, .bool a.brk, .bool a.opn] 29)).alloc (.cells #[.int .i64 b.push, .bool b.brk, .bool b.opn] 29)) w.heap.size h) := (((HAt.at_ w h _ _ (by simp)).alloc _).alloc _).alloc _
  have F1 : Hid (SW ((((w.alloc (.cells #[.int .i64 h.fl, .int .i64 h.gp, .int .i64 h.ln, .int .i64 h.rf, .int .i64 h.sp, .int .i64 h.pu, .int .i64 h.br, .int .i64 h.dr, .int .i64 h.lv, .int .i64 h.dO, .int .i64 h.ld, .int .i64 h.qu] 25)).alloc (.cells #[.int .i64 s.lo.pos, .int .i64 s.lo.vel, .int .i64 s.lo.door, .int .i64 s.up.pos, .int .i64 s.up.vel, .int .i64 s.up.door] 40)).alloc (.cells #[.int .i64 a.push, .bool a.brk, .bool a.opn] 29)).alloc (.cells #[.int .i64 b.push, .bool b.brk, .bool b.opn] 29)) (w.heap.size + 1) s) := ((SW.at_ (w.alloc (.cells #[.int .i64 h.fl, .int .i64 h.gp, .int .i64 h.ln, .int .i64 h.rf, .int .i64 h.sp, .int .i64 h.pu, .int .i64 h.br, .int .i64 h.dr, .int .i64 h.lv, .int .i64 h.dO, .int .i64 h.ld, .int .i64 h.qu] 25)) s _ _ (by simp)).alloc _).alloc _
  have F2 : Hid (XW ((((w.alloc (.cells #[.int .i64 h.fl, .int .i64 h.gp, .int .i64 h.ln, .int .i64 h.rf, .int .i64 h.sp, .int .i64 h.pu, .int .i64 h.br, .int .i64 h.dr, .int .i64 h.lv, .int .i64 h.dO, .int .i64 h.ld, .int .i64 h.qu] 25)).alloc (.cells #[.int .i64 s.lo.pos, .int .i64 s.lo.vel, .int .i64 s.lo.door, .int .i64 s.up.pos, .int .i64 s.up.vel, .int .i64 s.up.door] 40)).alloc (.cells #[.int .i64 a.push, .bool a.brk, .bool a.opn] 29)).alloc (.cells #[.int .i64 b.push, .bool b.brk, .bool b.opn] 29)) (w.heap.size + 2) a) := (XW.at_ ((w.alloc (.cells #[.int .i64 h.fl, .int .i64 h.gp, .int .i64 h.ln, .int .i64 h.rf, .int .i64 h.sp, .int .i64 h.pu, .int .i64 h.br, .int .i64 h.dr, .int .i64 h.lv, .int .i64 h.dO, .int .i64 h.ld, .int .i64 h.qu] 25)).alloc (.cells #[.int .i64 s.lo.pos, .int .i64 s.lo.vel, .int .i64 s.lo.door, .int .i64 s.up.pos, .int .i64 s.up.vel, .int .i64 s.up.door] 40)) a _ _ (by simp)).alloc _
  have F3 : Hid (XW ((((w.alloc (.cells #[.int .i64 h.fl, .int .i64 h.gp, .int .i64 h.ln, .int .i64 h.rf, .int .i64 h.sp, .int .i64 h.pu, .int .i64 h.br, .int .i64 h.dr, .int .i64 h.lv, .int .i64 h.dO, .int .i64 h.ld, .int .i64 h.qu] 25)).alloc (.cells #[.int .i64 s.lo.pos, .int .i64 s.lo.vel, .int .i64 s.lo.door, .int .i64 s.up.pos, .int .i64 s.up.vel, .int .i64 s.up.door] 40)).alloc (.cells #[.int .i64 a.push, .bool a.brk, .bool a.opn] 29)).alloc (.cells #[.int .i64 b.push, .bool b.brk, .bool b.opn] 29)) (w.heap.size + 3) b) := XW.at_ (((w.alloc (.cells #[.int .i64 h.fl, .int .i64 h.gp, .int .i64 h.ln, .int .i64 h.rf, .int .i64 h.sp, .int .i64 h.pu, .int .i64 h.br, .int .i64 h.dr, .int .i64 h.lv, .int .i64 h.dO, .int .i64 h.ld, .int .i64 h.qu] 25)).alloc (.cells #[.int .i64 s.lo.pos, .int .i64 s.lo.vel, .int .i64 s.lo.door, .int .i64 s.up.pos, .int .i64 s.up.vel, .int .i64 s.up.door] 40)).alloc (.cells #[.int .i64 a.push, .bool a.brk, .bool a.opn] 29)) b _ _ (by simp)
  have FB : Hid (Below w.heap.size w ((((w.alloc (.cells #[.int .i64 h.fl, .int .i64 h.gp, .int .i64 h.ln, .int .i64 h.rf, .int .i64 h.sp, .int .i64 h.pu, .int .i64 h.br, .int .i64 h.dr, .int .i64 h.lv, .int .i64 h.dO, .int .i64 h.ld, .int .i64 h.qu] 25)).alloc (.cells #[.int .i64 s.lo.pos, .int .i64 s.lo.vel, .int .i64 s.lo.door, .int .i64 s.up.pos, .int .i64 s.up.vel, .int .i64 s.up.door] 40)).alloc (.cells #[.int .i64 a.push, .bool a.brk, .bool a.opn] 29)).alloc (.cells #[.int .i64 b.push, .bool b.brk, .bool b.opn] 29))) := (((((Below.refl _ _).alloc (Nat.le_refl _) _).alloc (by simp <;> omega) _).alloc (by simp <;> omega) _).alloc (by simp <;> omega) _)
  by_cases hs : h.shaft s = 0
  · rw [if_pos hs]
    by_cases ha : h.cmd a = 0
    · rw [if_pos ha]
      have hz : (h.cmd a != 0) = false := by simpa using ha
      clear ha
      go_enter Try.func39, Try.ntmps39
      go_wp2_with (first | (go_at_call 20; refine (specShaftFault_any h s _).mono ?_; rw [hs]; rintro e w1 ⟨rfl, hb⟩; have F0 : Hid (HAt w1 w.heap.size h) := F0.out.below hb F0.out.lt; have F1 : Hid (SW w1 (w.heap.size + 1) s) := F1.out.below hb F1.out.lt; have F2 : Hid (XW w1 (w.heap.size + 2) a) := F2.out.below hb F2.out.lt; have F3 : Hid (XW w1 (w.heap.size + 3) b) := F3.out.below hb F3.out.lt; have FB : Hid (Below w.heap.size w w1) := FB.out.trans (hb.mono FB.out.size); obtain ⟨x0_0, x0_1, x0_2, x0_3, x0_4, x0_5, x0_6, x0_7, x0_8, x0_9, x0_10, x0_11⟩ := F0.out; obtain ⟨x1_0, x1_1, x1_2, x1_3, x1_4, x1_5, y1_0, y1_1, y1_2, y1_3, y1_4, y1_5⟩ := F1.out; obtain ⟨x2_0, x2_1, x2_2, y2_0, y2_1, y2_2⟩ := F2.out; obtain ⟨x3_0, x3_1, x3_2, y3_0, y3_1, y3_2⟩ := F3.out; clear hb) | (go_at_call 58; refine (specCommandFault_any h _ _).mono ?_; rintro e w2 ⟨rfl, hb⟩; have F0 : Hid (HAt w2 w.heap.size h) := F0.out.below hb F0.out.lt; have F1 : Hid (SW w2 (w.heap.size + 1) s) := F1.out.below hb F1.out.lt; have F2 : Hid (XW w2 (w.heap.size + 2) a) := F2.out.below hb F2.out.lt; have F3 : Hid (XW w2 (w.heap.size + 3) b) := F3.out.below hb F3.out.lt; have FB : Hid (Below w.heap.size w w2) := FB.out.trans (hb.mono FB.out.size); obtain ⟨x0_0, x0_1, x0_2, x0_3, x0_4, x0_5, x0_6, x0_7, x0_8, x0_9, x0_10, x0_11⟩ := F0.out; obtain ⟨x1_0, x1_1, x1_2, x1_3, x1_4, x1_5, y1_0, y1_1, y1_2, y1_3, y1_4, y1_5⟩ := F1.out; obtain ⟨x2_0, x2_1, x2_2, y2_0, y2_1, y2_2⟩ := F2.out; obtain ⟨x3_0, x3_1, x3_2, y3_0, y3_1, y3_2⟩ := F3.out; clear hb))
      go_ret
      exact ⟨rfl, FB.out⟩
    · rw [if_neg ha]
      have hn : (h.cmd a != 0) = true := by simpa using ha
      clear ha
      go_enter Try.func39, Try.ntmps39
      go_wp2_with (first | (go_at_call 20; refine (specShaftFault_any h s _).mono ?_; rw [hs]; rintro e w1 ⟨rfl, hb⟩; have F0 : Hid (HAt w1 w.heap.size h) := F0.out.below hb F0.out.lt; have F1 : Hid (SW w1 (w.heap.size + 1) s) := F1.out.below hb F1.out.lt; have F2 : Hid (XW w1 (w.heap.size + 2) a) := F2.out.below hb F2.out.lt; have F3 : Hid (XW w1 (w.heap.size + 3) b) := F3.out.below hb F3.out.lt; have FB : Hid (Below w.heap.size w w1) := FB.out.trans (hb.mono FB.out.size); obtain ⟨x0_0, x0_1, x0_2, x0_3, x0_4, x0_5, x0_6, x0_7, x0_8, x0_9, x0_10, x0_11⟩ := F0.out; obtain ⟨x1_0, x1_1, x1_2, x1_3, x1_4, x1_5, y1_0, y1_1, y1_2, y1_3, y1_4, y1_5⟩ := F1.out; obtain ⟨x2_0, x2_1, x2_2, y2_0, y2_1, y2_2⟩ := F2.out; obtain ⟨x3_0, x3_1, x3_2, y3_0, y3_1, y3_2⟩ := F3.out; clear hb) | (go_at_call 58; refine (specCommandFault_any h _ _).mono ?_; rintro e w2 ⟨rfl, hb⟩; have F0 : Hid (HAt w2 w.heap.size h) := F0.out.below hb F0.out.lt; have F1 : Hid (SW w2 (w.heap.size + 1) s) := F1.out.below hb F1.out.lt; have F2 : Hid (XW w2 (w.heap.size + 2) a) := F2.out.below hb F2.out.lt; have F3 : Hid (XW w2 (w.heap.size + 3) b) := F3.out.below hb F3.out.lt; have FB : Hid (Below w.heap.size w w2) := FB.out.trans (hb.mono FB.out.size); obtain ⟨x0_0, x0_1, x0_2, x0_3, x0_4, x0_5, x0_6, x0_7, x0_8, x0_9, x0_10, x0_11⟩ := F0.out; obtain ⟨x1_0, x1_1, x1_2, x1_3, x1_4, x1_5, y1_0, y1_1, y1_2, y1_3, y1_4, y1_5⟩ := F1.out; obtain ⟨x2_0, x2_1, x2_2, y2_0, y2_1, y2_2⟩ := F2.out; obtain ⟨x3_0, x3_1, x3_2, y3_0, y3_1, y3_2⟩ := F3.out; clear hb))
      go_ret
      exact ⟨rfl, FB.out⟩
  · rw [if_neg hs]
    have hn : (h.shaft s != 0) = true := by simpa using hs
    clear hs
    go_enter Try.func39, Try.ntmps39
    go_wp2_with (go_at_call 20; refine (specShaftFault_any h s _).mono ?_; rintro e w1 ⟨rfl, hb⟩; have F0 : Hid (HAt w1 w.heap.size h) := F0.out.below hb F0.out.lt; have F1 : Hid (SW w1 (w.heap.size + 1) s) := F1.out.below hb F1.out.lt; have F2 : Hid (XW w1 (w.heap.size + 2) a) := F2.out.below hb F2.out.lt; have F3 : Hid (XW w1 (w.heap.size + 3) b) := F3.out.below hb F3.out.lt; have FB : Hid (Below w.heap.size w w1) := FB.out.trans (hb.mono FB.out.size); obtain ⟨x0_0, x0_1, x0_2, x0_3, x0_4, x0_5, x0_6, x0_7, x0_8, x0_9, x0_10, x0_11⟩ := F0.out; obtain ⟨x1_0, x1_1, x1_2, x1_3, x1_4, x1_5, y1_0, y1_1, y1_2, y1_3, y1_4, y1_5⟩ := F1.out; obtain ⟨x2_0, x2_1, x2_2, y2_0, y2_1, y2_2⟩ := F2.out; obtain ⟨x3_0, x3_1, x3_2, y3_0, y3_1, y3_2⟩ := F3.out; clear hb)
    go_ret
    exact ⟨rfl, FB.out⟩
theorem pair_zero {h : Hs} {s : Sh} {a b : Cm} (e : Hs.pairK h s a b = 0) : h.shaft s = 0 ∧ h.cmd a = 0 ∧ h.cmd b = 0 := by
  unfold Hs.pairK at e
  split at e
  · split at e
    · exact ⟨by assumption, by assumption, e⟩
    · exact absurd e (by assumption)
  · exact absurd e (by assumption)
end Go.Proofs.Ytclfdfcakmgffaa
