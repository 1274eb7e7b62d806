/-
  The model's guard: the pair that it tells; GuardPair.
-/
import Derived.Test.YtclfdfcakmgffaaGuardB
import Derived.Test.YtclfdfcakmgffaaCellsD
namespace Go.Proofs.Ytclfdfcakmgffaa
open Go.RowKit Pl
set_option linter.unusedSimpArgs false
set_option linter.unusedVariables false

/-- A pair is answered, and nothing that was there has turned. -/
def isPair (w : World) (k : Int) (p q : Cm) (e : Ending) (w' : World) : Prop := e = .returned (.agg #[.int .i64 k, .int .i64 p.push, .bool p.brk, .bool p.opn, .int .i64 q.push, .bool q.brk, .bool q.opn]) ∧ Below w.heap.size w w'
set_option maxRecDepth 20000 in
set_option maxHeartbeats 8000000 in
theorem l5Brake_any (c : Cs) (x y : Cm) (hy : brkFor c x = y) (w : World) :
    Calls Try.prog 90 #[.agg #[.int .i64 c.pos, .int .i64 c.vel, .int .i64 c.door], .agg #[.int .i64 x.push, .bool x.brk, .bool x.opn]] w fun e w' => e = .returned (.agg #[.int .i64 y.push, .bool y.brk, .bool y.opn]) ∧ Below w.heap.size w w' := by
  unfold brkFor at hy
  by_cases dz : c.door ≠ 0
  · rw [if_pos dz] at hy
    have b0 : (c.door != 0) = true := by simpa using dz
    clear dz
    subst hy
    go_enter Try.func90, Try.ntmps90
    go_wp2
    exact bodyPost_ret (v := .agg #[.int .i64 x.push, .bool x.brk, .bool x.opn]) (by simp [results, Try.results90, go_sem]) rfl ⟨rfl, by repeat (first | exact Below.refl _ _ | (refine Below.setCell ?_ ?_ _) | (refine Below.alloc ?_ ?_ _) | (simp; omega) | simp)⟩
  · rw [if_neg dz] at hy
    have b0 : (c.door != 0) = false := by simpa using dz
    clear dz
    subst hy
    go_enter Try.func90, Try.ntmps90
    go_wp2
    exact bodyPost_ret (v := .agg #[.int .i64 0, .bool true, .bool false]) (by simp [results, Try.results90, go_sem]) rfl ⟨rfl, by repeat (first | exact Below.refl _ _ | (refine Below.setCell ?_ ?_ _) | (refine Below.alloc ?_ ?_ _) | (simp; omega) | simp)⟩
set_option maxRecDepth 20000 in
set_option maxHeartbeats 16000000 in
theorem l5Guard_any (h : Hs) (s : Sh) (a b : Cm) (kl : CarOk h s.lo) (ku : CarOk h s.up) (a1 : -h.pu ≤ a.push) (a2 : a.push ≤ h.pu) (b1 : -h.pu ≤ b.push) (b2 : b.push ≤ h.pu) (w : World) :
    Calls Try.prog 70 #[.agg #[.int .i64 h.fl, .int .i64 h.gp, .int .i64 h.ln, .int .i64 h.rf, .int .i64 h.sp, .int .i64 h.pu, .int .i64 h.br, .int .i64 h.dr, .int .i64 h.lv, .int .i64 h.dO, .int .i64 h.ld, .int .i64 h.qu], .agg #[.int .i64 s.lo.pos, .int .i64 s.lo.vel, .int .i64 s.lo.door, .int .i64 s.up.pos, .int .i64 s.up.vel, .int .i64 s.up.door], .agg #[.int .i64 a.push, .bool a.brk, .bool a.opn], .agg #[.int .i64 b.push, .bool b.brk, .bool b.opn]] w (isPair w 0 (Hs.grd h s a b).1 (Hs.grd h s a b).2) := by
  have o := kl.ok
  have p0 := o.pu1
  obtain ⟨a', ha'⟩ : ∃ a', brkFor s.lo a = a' := ⟨_, rfl⟩
  obtain ⟨b', hb'⟩ : ∃ b', brkFor s.up b = b' := ⟨_, rfl⟩
  have a3 : -h.pu ≤ a'.push ∧ a'.push ≤ h.pu := by rw [← ha']; unfold brkFor; split; exact ⟨a1, a2⟩; dsimp only; omega
  have b3 : -h.pu ≤ b'.push ∧ b'.push ≤ h.pu := by rw [← hb']; unfold brkFor; split; exact ⟨b1, b2⟩; dsimp only; omega
  obtain ⟨p, hp⟩ : ∃ p, Hs.grd h s a b = p := ⟨_, rfl⟩
  rw [hp]
  have HE : Hid (p = if Hs.may h s a b = true then (a, b) else if Hs.may h s a' b = true then (a', b) else if Hs.may h s a b' = true then (a, b') else (a', b')) := by rw [← hp]; unfold Hs.grd; rw [ha', hb']; exact rfl
  have HA : Hid (brkFor s.lo a = a') := ha'
  have HB : Hid (brkFor s.up b = b') := hb'
  have HL : Hid (CarOk h s.lo) := kl
  have HU : Hid (CarOk h s.up) := ku
  obtain ⟨a31, a32⟩ := a3
  obtain ⟨b31, b32⟩ := b3
  clear o kl ku ha' hb' hp
  have F0 : Hid (HAt (((((w.alloc (.cells #[.int .i64 h.fl, .int .i64 h.gp, .int .i64 h.ln, .int .i64 h.rf, .int .i64 h.sp, .int .i64 h.pu, .int .i64 h.br, .int .i64 h.dr, .int .i64 h.lv, .int .i64 h.dO, .int .i64 h.ld, .int .i64 h.qu] 25)).alloc (.cells #[.int .i64 s.lo.pos, .int .i64 s.lo.vel, .int .i64 s.lo.door, .int .i64 s.up.pos, .int .i64 s.up.vel, .int .i64 s.up.door] 40)).alloc (.cells #[.int .i64 a.push, .bool a.brk, .bool a.opn] 29)).alloc (.cells #[.int .i64 b.push, .bool b.brk, .bool b.opn] 29)).alloc (.cells #[.int .i64 0, .int .i64 0, .bool false, .bool false, .int .i64 0, .bool false, .bool false] 90)) w.heap.size h) := ((((HAt.at_ w h _ _ (by simp)).alloc _).alloc _).alloc _).alloc _
  have F1 : Hid (SW (((((w.alloc (.cells #[.int .i64 h.fl, .int .i64 h.gp, .int .i64 h.ln, .int .i64 h.rf, .int .i64 h.sp, .int .i64 h.pu, .int .i64 h.br, .int .i64 h.dr, .int .i64 h.lv, .int .i64 h.dO, .int .i64 h.ld, .int .i64 h.qu] 25)).alloc (.cells #[.int .i64 s.lo.pos, .int .i64 s.lo.vel, .int .i64 s.lo.door, .int .i64 s.up.pos, .int .i64 s.up.vel, .int .i64 s.up.door] 40)).alloc (.cells #[.int .i64 a.push, .bool a.brk, .bool a.opn] 29)).alloc (.cells #[.int .i64 b.push, .bool b.brk, .bool b.opn] 29)).alloc (.cells #[.int .i64 0, .int .i64 0, .bool false, .bool false, .int .i64 0, .bool false, .bool false] 90)) (w.heap.size + 1) s) := (((SW.at_ (w.alloc (.cells #[.int .i64 h.fl, .int .i64 h.gp, .int .i64 h.ln, .int .i64 h.rf, .int .i64 h.sp, .int .i64 h.pu, .int .i64 h.br, .int .i64 h.dr, .int .i64 h.lv, .int .i64 h.dO, .int .i64 h.ld, .int .i64 h.qu] 25)) s _ _ (by simp)).alloc _).alloc _).alloc _
  have F2 : Hid (XW (((((w.alloc (.cells #[.int .i64 h.fl, .int .i64 h.gp, .int .i64 h.ln, .int .i64 h.rf, .int .i64 h.sp, .int .i64 h.pu, .int .i64 h.br, .int .i64 h.dr, .int .i64 h.lv, .int .i64 h.dO, .int .i64 h.ld, .int .i64 h.qu] 25)).alloc (.cells #[.int .i64 s.lo.pos, .int .i64 s.lo.vel, .int .i64 s.lo.door, .int .i64 s.up.pos, .int .i64 s.up.vel, .int .i64 s.up.door] 40)).alloc (.cells #[.int .i64 a.push, .bool a.brk, .bool a.opn] 29)).alloc (.cells #[.int .i64 b.push, .bool b.brk, .bool b.opn] 29)).alloc (.cells #[.int .i64 0, .int .i64 0, .bool false, .bool false, .int .i64 0, .bool false, .bool false] 90)) (w.heap.size + 2) a) := ((XW.at_ ((w.alloc (.cells #[.int .i64 h.fl, .int .i64 h.gp, .int .i64 h.ln, .int .i64 h.rf, .int .i64 h.sp, .int .i64 h.pu, .int .i64 h.br, .int .i64 h.dr, .int .i64 h.lv, .int .i64 h.dO, .int .i64 h.ld, .int .i64 h.qu] 25)).alloc (.cells #[.int .i64 s.lo.pos, .int .i64 s.lo.vel, .int .i64 s.lo.door, .int .i64 s.up.pos, .int .i64 s.up.vel, .int .i64 s.up.door] 40)) a _ _ (by simp)).alloc _).alloc _
  have F3 : Hid (XW (((((w.alloc (.cells #[.int .i64 h.fl, .int .i64 h.gp, .int .i64 h.ln, .int .i64 h.rf, .int .i64 h.sp, .int .i64 h.pu, .int .i64 h.br, .int .i64 h.dr, .int .i64 h.lv, .int .i64 h.dO, .int .i64 h.ld, .int .i64 h.qu] 25)).alloc (.cells #[.int .i64 s.lo.pos, .int .i64 s.lo.vel, .int .i64 s.lo.door, .int .i64 s.up.pos, .int .i64 s.up.vel, .int .i64 s.up.door] 40)).alloc (.cells #[.int .i64 a.push, .bool a.brk, .bool a.opn] 29)).alloc (.cells #[.int .i64 b.push, .bool b.brk, .bool b.opn] 29)).alloc (.cells #[.int .i64 0, .int .i64 0, .bool false, .bool false, .int .i64 0, .bool false, .bool false] 90)) (w.heap.size + 3) b) := (XW.at_ (((w.alloc (.cells #[.int .i64 h.fl, .int .i64 h.gp, .int .i64 h.ln, .int .i64 h.rf, .int .i64 h.sp, .int .i64 h.pu, .int .i64 h.br, .int .i64 h.dr, .int .i64 h.lv, .int .i64 h.dO, .int .i64 h.ld, .int .i64 h.qu] 25)).alloc (.cells #[.int .i64 s.lo.pos, .int .i64 s.lo.vel, .int .i64 s.lo.door, .int .i64 s.up.pos, .int .i64 s.up.vel, .int .i64 s.up.door] 40)).alloc (.cells #[.int .i64 a.push, .bool a.brk, .bool a.opn] 29)) b _ _ (by simp)).alloc _
  have F4 : Hid (RPair (((((w.alloc (.cells #[.int .i64 h.fl, .int .i64 h.gp, .int .i64 h.ln, .int .i64 h.rf, .int .i64 h.sp, .int .i64 h.pu, .int .i64 h.br, .int .i64 h.dr, .int .i64 h.lv, .int .i64 h.dO, .int .i64 h.ld, .int .i64 h.qu] 25)).alloc (.cells #[.int .i64 s.lo.pos, .int .i64 s.lo.vel, .int .i64 s.lo.door, .int .i64 s.up.pos, .int .i64 s.up.vel, .int .i64 s.up.door] 40)).alloc (.cells #[.int .i64 a.push, .bool a.brk, .bool a.opn] 29)).alloc (.cells #[.int .i64 b.push, .bool b.brk, .bool b.opn] 29)).alloc (.cells #[.int .i64 0, .int .i64 0, .bool false, .bool false, .int .i64 0, .bool false, .bool false] 90)) (w.heap.size + 4)) := RPair.at_ ((((w.alloc (.cells #[.int .i64 h.fl, .int .i64 h.gp, .int .i64 h.ln, .int .i64 h.rf, .int .i64 h.sp, .int .i64 h.pu, .int .i64 h.br, .int .i64 h.dr, .int .i64 h.lv, .int .i64 h.dO, .int .i64 h.ld, .int .i64 h.qu] 25)).alloc (.cells #[.int .i64 s.lo.pos, .int .i64 s.lo.vel, .int .i64 s.lo.door, .int .i64 s.up.pos, .int .i64 s.up.vel, .int .i64 s.up.door] 40)).alloc (.cells #[.int .i64 a.push, .bool a.brk, .bool a.opn] 29)).alloc (.cells #[.int .i64 b.push, .bool b.brk, .bool b.opn] 29)) _ _ (by simp)
  have FB : Hid (Below w.heap.size w (((((w.alloc (.cells #[.int .i64 h.fl, .int .i64 h.gp, .int .i64 h.ln, .int .i64 h.rf, .int .i64 h.sp, .int .i64 h.pu, .int .i64 h.br, .int .i64 h.dr, .int .i64 h.lv, .int .i64 h.dO, .int .i64 h.ld, .int .i64 h.qu] 25)).alloc (.cells #[.int .i64 s.lo.pos, .int .i64 s.lo.vel, .int .i64 s.lo.door, .int .i64 s.up.pos, .int .i64 s.up.vel, .int .i64 s.up.door] 40)).alloc (.cells #[.int .i64 a.push, .bool a.brk, .bool a.opn] 29)).alloc (.cells #[.int .i64 b.push, .bool b.brk, .bool b.opn] 29)).alloc (.cells #[.int .i64 0, .int .i64 0, .bool false, .bool false, .int .i64 0, .bool false, .bool false] 90))) := ((((((Below.refl _ _).alloc (Nat.le_refl _) _).alloc (by simp <;> omega) _).alloc (by simp <;> omega) _).alloc (by simp <;> omega) _).alloc (by simp <;> omega) _)
  go_enter Try.func70, Try.ntmps70
  go_upto_region 2 with (go_at_call 90; refine (l5Brake_any s.lo a a' HA.out _).mono ?_; rintro e w1 ⟨rfl, hb⟩; have F0 : Hid (HAt w1 w.heap.size h) := F0.out.below hb F0.out.lt; have F1 : Hid (SW w1 (w.heap.size + 1) s) := F1.out.below hb F1.out.lt; have F2 : Hid (XW w1 (w.heap.size + 2) a) := F2.out.below hb F2.out.lt; have F3 : Hid (XW w1 (w.heap.size + 3) b) := F3.out.below hb F3.out.lt; have F4 : Hid (RPair w1 (w.heap.size + 4)) := F4.out.below hb F4.out.lt; have FB : Hid (Below w.heap.size w w1) := FB.out.trans (hb.mono FB.out.size); clear hb; obtain ⟨x0_0, x0_1, x0_2, x0_3, x0_4, x0_5, x0_6, x0_7, x0_8, x0_9, x0_10, x0_11⟩ := F0.out; obtain ⟨x1_0, x1_1, x1_2, x1_3, x1_4, x1_5, y1_0, y1_1, y1_2, y1_3, y1_4, y1_5⟩ := F1.out; obtain ⟨x2_0, x2_1, x2_2, y2_0, y2_1, y2_2⟩ := F2.out; obtain ⟨x3_0, x3_1, x3_2, y3_0, y3_1, y3_2⟩ := F3.out; obtain ⟨x4_0, x4_1, x4_2, x4_3, x4_4, x4_5, x4_6, y4_0, y4_1, y4_2, y4_3, y4_4, y4_5, y4_6⟩ := F4.out)
  obtain ⟨ba, hbb⟩ : ∃ ba, ba = w1.heap.size := ⟨_, rfl⟩
  obtain ⟨w2, hw2⟩ : ∃ w2, w2 = w1.alloc (.cells #[.int .i64 a'.push, .bool a'.brk, .bool a'.opn] 29) := ⟨_, rfl⟩
  have lbaF0 := F0.out.lt
  rw [← hbb] at lbaF0
  have F0 : Hid (HAt w2 w.heap.size h) := by rw [hw2]; exact F0.out.alloc _
  have lbaF1 := F1.out.lt
  rw [← hbb] at lbaF1
  have F1 : Hid (SW w2 (w.heap.size + 1) s) := by rw [hw2]; exact F1.out.alloc _
  have lbaF2 := F2.out.lt
  rw [← hbb] at lbaF2
  have F2 : Hid (XW w2 (w.heap.size + 2) a) := by rw [hw2]; exact F2.out.alloc _
  have lbaF3 := F3.out.lt
  rw [← hbb] at lbaF3
  have F3 : Hid (XW w2 (w.heap.size + 3) b) := by rw [hw2]; exact F3.out.alloc _
  have lbaF4 := F4.out.lt
  rw [← hbb] at lbaF4
  have F4 : Hid (RPair w2 (w.heap.size + 4)) := by rw [hw2]; exact F4.out.alloc _
  have lbaB : w.heap.size ≤ ba := by rw [hbb]; exact FB.out.size
  have FB : Hid (Below w.heap.size w w2) := by rw [hw2]; exact FB.out.alloc FB.out.size _
  have F5 : Hid (XW w2 ba a') := by rw [hw2]; exact XW.at_ w1 a' _ ba hbb
  rw [← hw2, ← hbb]
  clear hbb hw2
  obtain ⟨x0_0, x0_1, x0_2, x0_3, x0_4, x0_5, x0_6, x0_7, x0_8, x0_9, x0_10, x0_11⟩ := F0.out
  obtain ⟨x1_0, x1_1, x1_2, x1_3, x1_4, x1_5, y1_0, y1_1, y1_2, y1_3, y1_4, y1_5⟩ := F1.out
  obtain ⟨x2_0, x2_1, x2_2, y2_0, y2_1, y2_2⟩ := F2.out
  obtain ⟨x3_0, x3_1, x3_2, y3_0, y3_1, y3_2⟩ := F3.out
  obtain ⟨x4_0, x4_1, x4_2, x4_3, x4_4, x4_5, x4_6, y4_0, y4_1, y4_2, y4_3, y4_4, y4_5, y4_6⟩ := F4.out
  obtain ⟨x5_0, x5_1, x5_2, y5_0, y5_1, y5_2⟩ := F5.out
  go_upto_region 3 with (go_at_call 90; refine (l5Brake_any s.up b b' HB.out _).mono ?_; rintro e w3 ⟨rfl, hb⟩; have F0 : Hid (HAt w3 w.heap.size h) := F0.out.below hb F0.out.lt; have F1 : Hid (SW w3 (w.heap.size + 1) s) := F1.out.below hb F1.out.lt; have F2 : Hid (XW w3 (w.heap.size + 2) a) := F2.out.below hb F2.out.lt; have F3 : Hid (XW w3 (w.heap.size + 3) b) := F3.out.below hb F3.out.lt; have F4 : Hid (RPair w3 (w.heap.size + 4)) := F4.out.below hb F4.out.lt; have F5 : Hid (XW w3 ba a') := F5.out.below hb F5.out.lt; have FB : Hid (Below w.heap.size w w3) := FB.out.trans (hb.mono FB.out.size); clear hb; obtain ⟨x0_0, x0_1, x0_2, x0_3, x0_4, x0_5, x0_6, x0_7, x0_8, x0_9, x0_10, x0_11⟩ := F0.out; obtain ⟨x1_0, x1_1, x1_2, x1_3, x1_4, x1_5, y1_0, y1_1, y1_2, y1_3, y1_4, y1_5⟩ := F1.out; obtain ⟨x2_0, x2_1, x2_2, y2_0, y2_1, y2_2⟩ := F2.out; obtain ⟨x3_0, x3_1, x3_2, y3_0, y3_1, y3_2⟩ := F3.out; obtain ⟨x4_0, x4_1, x4_2, x4_3, x4_4, x4_5, x4_6, y4_0, y4_1, y4_2, y4_3, y4_4, y4_5, y4_6⟩ := F4.out; obtain ⟨x5_0, x5_1, x5_2, y5_0, y5_1, y5_2⟩ := F5.out)
  obtain ⟨bb, hbb⟩ : ∃ bb, bb = w3.heap.size := ⟨_, rfl⟩
  obtain ⟨w4, hw2⟩ : ∃ w4, w4 = w3.alloc (.cells #[.int .i64 b'.push, .bool b'.brk, .bool b'.opn] 29) := ⟨_, rfl⟩
  have lbbF0 := F0.out.lt
  rw [← hbb] at lbbF0
  have F0 : Hid (HAt w4 w.heap.size h) := by rw [hw2]; exact F0.out.alloc _
  have lbbF1 := F1.out.lt
  rw [← hbb] at lbbF1
  have F1 : Hid (SW w4 (w.heap.size + 1) s) := by rw [hw2]; exact F1.out.alloc _
  have lbbF2 := F2.out.lt
  rw [← hbb] at lbbF2
  have F2 : Hid (XW w4 (w.heap.size + 2) a) := by rw [hw2]; exact F2.out.alloc _
  have lbbF3 := F3.out.lt
  rw [← hbb] at lbbF3
  have F3 : Hid (XW w4 (w.heap.size + 3) b) := by rw [hw2]; exact F3.out.alloc _
  have lbbF4 := F4.out.lt
  rw [← hbb] at lbbF4
  have F4 : Hid (RPair w4 (w.heap.size + 4)) := by rw [hw2]; exact F4.out.alloc _
  have lbbF5 := F5.out.lt
  rw [← hbb] at lbbF5
  have F5 : Hid (XW w4 ba a') := by rw [hw2]; exact F5.out.alloc _
  have lbbB : w.heap.size ≤ bb := by rw [hbb]; exact FB.out.size
  have FB : Hid (Below w.heap.size w w4) := by rw [hw2]; exact FB.out.alloc FB.out.size _
  have F6 : Hid (XW w4 bb b') := by rw [hw2]; exact XW.at_ w3 b' _ bb hbb
  rw [← hw2, ← hbb]
  clear hbb hw2
  obtain ⟨x0_0, x0_1, x0_2, x0_3, x0_4, x0_5, x0_6, x0_7, x0_8, x0_9, x0_10, x0_11⟩ := F0.out
  obtain ⟨x1_0, x1_1, x1_2, x1_3, x1_4, x1_5, y1_0, y1_1, y1_2, y1_3, y1_4, y1_5⟩ := F1.out
  obtain ⟨x2_0, x2_1, x2_2, y2_0, y2_1, y2_2⟩ := F2.out
  obtain ⟨x3_0, x3_1, x3_2, y3_0, y3_1, y3_2⟩ := F3.out
  obtain ⟨x4_0, x4_1, x4_2, x4_3, x4_4, x4_5, x4_6, y4_0, y4_1, y4_2, y4_3, y4_4, y4_5, y4_6⟩ := F4.out
  obtain ⟨x5_0, x5_1, x5_2, y5_0, y5_1, y5_2⟩ := F5.out
  obtain ⟨x6_0, x6_1, x6_2, y6_0, y6_1, y6_2⟩ := F6.out
  cases m1 : Hs.may h s a b with
  | true =>
    have e : p = (a, b) := by rw [HE.out, m1]; rfl
    subst e
    clear HE
    go_wp2_with (go_at_call 91; refine (l5May_any h s _ _ HL.out HU.out (by assumption) (by assumption) (by assumption) (by assumption) _).mono ?_; rintro e w5 ⟨rfl, hb⟩; have F0 : Hid (HAt w5 w.heap.size h) := F0.out.below hb F0.out.lt; have F1 : Hid (SW w5 (w.heap.size + 1) s) := F1.out.below hb F1.out.lt; have F2 : Hid (XW w5 (w.heap.size + 2) a) := F2.out.below hb F2.out.lt; have F3 : Hid (XW w5 (w.heap.size + 3) b) := F3.out.below hb F3.out.lt; have F4 : Hid (RPair w5 (w.heap.size + 4)) := F4.out.below hb F4.out.lt; have F5 : Hid (XW w5 ba a') := F5.out.below hb F5.out.lt; have F6 : Hid (XW w5 bb b') := F6.out.below hb F6.out.lt; have FB : Hid (Below w.heap.size w w5) := FB.out.trans (hb.mono FB.out.size); clear hb; obtain ⟨x0_0, x0_1, x0_2, x0_3, x0_4, x0_5, x0_6, x0_7, x0_8, x0_9, x0_10, x0_11⟩ := F0.out; obtain ⟨x1_0, x1_1, x1_2, x1_3, x1_4, x1_5, y1_0, y1_1, y1_2, y1_3, y1_4, y1_5⟩ := F1.out; obtain ⟨x2_0, x2_1, x2_2, y2_0, y2_1, y2_2⟩ := F2.out; obtain ⟨x3_0, x3_1, x3_2, y3_0, y3_1, y3_2⟩ := F3.out; obtain ⟨x4_0, x4_1, x4_2, x4_3, x4_4, x4_5, x4_6, y4_0, y4_1, y4_2, y4_3, y4_4, y4_5, y4_6⟩ := F4.out; obtain ⟨x5_0, x5_1, x5_2, y5_0, y5_1, y5_2⟩ := F5.out; obtain ⟨x6_0, x6_1, x6_2, y6_0, y6_1, y6_2⟩ := F6.out)
    change bodyPost _ _ _ _ _ (putPair w5 (w.heap.size + 4) 0 a b)
    obtain ⟨Wf, hWf⟩ : ∃ Wf, putPair w5 (w.heap.size + 4) 0 a b = Wf := ⟨_, rfl⟩
    have HRf : VPair Wf (w.heap.size + 4) 0 a b := hWf ▸ F4.out.put _ _ _
    have HBf : Below w.heap.size w Wf := hWf ▸ below_putPair FB.out (by omega) _ _ _
    rw [hWf]
    clear hWf
    obtain ⟨d0, d1, d2, d3, d4, d5, d6⟩ := HRf
    try dsimp only at d0 d1 d2 d3 d4 d5 d6
    exact bodyPost_ret (v := .agg #[.int .i64 0, .int .i64 a.push, .bool a.brk, .bool a.opn, .int .i64 b.push, .bool b.brk, .bool b.opn]) (by simp [results, Try.results70, go_sem, d0, d1, d2, d3, d4, d5, d6]) rfl ⟨rfl, HBf⟩
  | false =>
    cases m2 : Hs.may h s a' b with
    | true =>
      have e : p = (a', b) := by rw [HE.out, m1, m2]; rfl
      subst e
      clear HE
      go_wp2_with (go_at_call 91; refine (l5May_any h s _ _ HL.out HU.out (by assumption) (by assumption) (by assumption) (by assumption) _).mono ?_; rintro e w5 ⟨rfl, hb⟩; have F0 : Hid (HAt w5 w.heap.size h) := F0.out.below hb F0.out.lt; have F1 : Hid (SW w5 (w.heap.size + 1) s) := F1.out.below hb F1.out.lt; have F2 : Hid (XW w5 (w.heap.size + 2) a) := F2.out.below hb F2.out.lt; have F3 : Hid (XW w5 (w.heap.size + 3) b) := F3.out.below hb F3.out.lt; have F4 : Hid (RPair w5 (w.heap.size + 4)) := F4.out.below hb F4.out.lt; have F5 : Hid (XW w5 ba a') := F5.out.below hb F5.out.lt; have F6 : Hid (XW w5 bb b') := F6.out.below hb F6.out.lt; have FB : Hid (Below w.heap.size w w5) := FB.out.trans (hb.mono FB.out.size); clear hb; obtain ⟨x0_0, x0_1, x0_2, x0_3, x0_4, x0_5, x0_6, x0_7, x0_8, x0_9, x0_10, x0_11⟩ := F0.out; obtain ⟨x1_0, x1_1, x1_2, x1_3, x1_4, x1_5, y1_0, y1_1, y1_2, y1_3, y1_4, y1_5⟩ := F1.out; obtain ⟨x2_0, x2_1, x2_2, y2_0, y2_1, y2_2⟩ := F2.out; obtain ⟨x3_0, x3_1, x3_2, y3_0, y3_1, y3_2⟩ := F3.out; obtain ⟨x4_0, x4_1, x4_2, x4_3, x4_4, x4_5, x4_6, y4_0, y4_1, y4_2, y4_3, y4_4, y4_5, y4_6⟩ := F4.out; obtain ⟨x5_0, x5_1, x5_2, y5_0, y5_1, y5_2⟩ := F5.out; obtain ⟨x6_0, x6_1, x6_2, y6_0, y6_1, y6_2⟩ := F6.out)
      change bodyPost _ _ _ _ _ (putPair w5 (w.heap.size + 4) 0 a' b)
      obtain ⟨Wf, hWf⟩ : ∃ Wf, putPair w5 (w.heap.size + 4) 0 a' b = Wf := ⟨_, rfl⟩
      have HRf : VPair Wf (w.heap.size + 4) 0 a' b := hWf ▸ F4.out.put _ _ _
      have HBf : Below w.heap.size w Wf := hWf ▸ below_putPair FB.out (by omega) _ _ _
      rw [hWf]
      clear hWf
      obtain ⟨d0, d1, d2, d3, d4, d5, d6⟩ := HRf
      try dsimp only at d0 d1 d2 d3 d4 d5 d6
      exact bodyPost_ret (v := .agg #[.int .i64 0, .int .i64 a'.push, .bool a'.brk, .bool a'.opn, .int .i64 b.push, .bool b.brk, .bool b.opn]) (by simp [results, Try.results70, go_sem, d0, d1, d2, d3, d4, d5, d6]) rfl ⟨rfl, HBf⟩
    | false =>
      cases m3 : Hs.may h s a b' with
      | true =>
        have e : p = (a, b') := by rw [HE.out, m1, m2, m3]; rfl
        subst e
        clear HE
        go_wp2_with (go_at_call 91; refine (l5May_any h s _ _ HL.out HU.out (by assumption) (by assumption) (by assumption) (by assumption) _).mono ?_; rintro e w5 ⟨rfl, hb⟩; have F0 : Hid (HAt w5 w.heap.size h) := F0.out.below hb F0.out.lt; have F1 : Hid (SW w5 (w.heap.size + 1) s) := F1.out.below hb F1.out.lt; have F2 : Hid (XW w5 (w.heap.size + 2) a) := F2.out.below hb F2.out.lt; have F3 : Hid (XW w5 (w.heap.size + 3) b) := F3.out.below hb F3.out.lt; have F4 : Hid (RPair w5 (w.heap.size + 4)) := F4.out.below hb F4.out.lt; have F5 : Hid (XW w5 ba a') := F5.out.below hb F5.out.lt; have F6 : Hid (XW w5 bb b') := F6.out.below hb F6.out.lt; have FB : Hid (Below w.heap.size w w5) := FB.out.trans (hb.mono FB.out.size); clear hb; obtain ⟨x0_0, x0_1, x0_2, x0_3, x0_4, x0_5, x0_6, x0_7, x0_8, x0_9, x0_10, x0_11⟩ := F0.out; obtain ⟨x1_0, x1_1, x1_2, x1_3, x1_4, x1_5, y1_0, y1_1, y1_2, y1_3, y1_4, y1_5⟩ := F1.out; obtain ⟨x2_0, x2_1, x2_2, y2_0, y2_1, y2_2⟩ := F2.out; obtain ⟨x3_0, x3_1, x3_2, y3_0, y3_1, y3_2⟩ := F3.out; obtain ⟨x4_0, x4_1, x4_2, x4_3, x4_4, x4_5, x4_6, y4_0, y4_1, y4_2, y4_3, y4_4, y4_5, y4_6⟩ := F4.out; obtain ⟨x5_0, x5_1, x5_2, y5_0, y5_1, y5_2⟩ := F5.out; obtain ⟨x6_0, x6_1, x6_2, y6_0, y6_1, y6_2⟩ := F6.out)
        change bodyPost _ _ _ _ _ (putPair w5 (w.heap.size + 4) 0 a b')
        obtain ⟨Wf, hWf⟩ : ∃ Wf, putPair w5 (w.heap.size + 4) 0 a b' = Wf := ⟨_, rfl⟩
        have HRf : VPair Wf (w.heap.size + 4) 0 a b' := hWf ▸ F4.out.put _ _ _
        have HBf : Below w.heap.size w Wf := hWf ▸ below_putPair FB.out (by omega) _ _ _
        rw [hWf]
        clear hWf
        obtain ⟨d0, d1, d2, d3, d4, d5, d6⟩ := HRf
        try dsimp only at d0 d1 d2 d3 d4 d5 d6
        exact bodyPost_ret (v := .agg #[.int .i64 0, .int .i64 a.push, .bool a.brk, .bool a.opn, .int .i64 b'.push, .bool b'.brk, .bool b'.opn]) (by simp [results, Try.results70, go_sem, d0, d1, d2, d3, d4, d5, d6]) rfl ⟨rfl, HBf⟩
      | false =>
        have e : p = (a', b') := by rw [HE.out, m1, m2, m3]; rfl
        subst e
        clear HE
        go_wp2_with (go_at_call 91; refine (l5May_any h s _ _ HL.out HU.out (by assumption) (by assumption) (by assumption) (by assumption) _).mono ?_; rintro e w5 ⟨rfl, hb⟩; have F0 : Hid (HAt w5 w.heap.size h) := F0.out.below hb F0.out.lt; have F1 : Hid (SW w5 (w.heap.size + 1) s) := F1.out.below hb F1.out.lt; have F2 : Hid (XW w5 (w.heap.size + 2) a) := F2.out.below hb F2.out.lt; have F3 : Hid (XW w5 (w.heap.size + 3) b) := F3.out.below hb F3.out.lt; have F4 : Hid (RPair w5 (w.heap.size + 4)) := F4.out.below hb F4.out.lt; have F5 : Hid (XW w5 ba a') := F5.out.below hb F5.out.lt; have F6 : Hid (XW w5 bb b') := F6.out.below hb F6.out.lt; have FB : Hid (Below w.heap.size w w5) := FB.out.trans (hb.mono FB.out.size); clear hb; obtain ⟨x0_0, x0_1, x0_2, x0_3, x0_4, x0_5, x0_6, x0_7, x0_8, x0_9, x0_10, x0_11⟩ := F0.out; obtain ⟨x1_0, x1_1, x1_2, x1_3, x1_4, x1_5, y1_0, y1_1, y1_2, y1_3, y1_4, y1_5⟩ := F1.out; obtain ⟨x2_0, x2_1, x2_2, y2_0, y2_1, y2_2⟩ := F2.out; obtain ⟨x3_0, x3_1, x3_2, y3_0, y3_1, y3_2⟩ := F3.out; obtain ⟨x4_0, x4_1, x4_2, x4_3, x4_4, x4_5, x4_6, y4_0, y4_1, y4_2, y4_3, y4_4, y4_5, y4_6⟩ := F4.out; obtain ⟨x5_0, x5_1, x5_2, y5_0, y5_1, y5_2⟩ := F5.out; obtain ⟨x6_0, x6_1, x6_2, y6_0, y6_1, y6_2⟩ := F6.out)
        change bodyPost _ _ _ _ _ (putPair w5 (w.heap.size + 4) 0 a' b')
        obtain ⟨Wf, hWf⟩ : ∃ Wf, putPair w5 (w.heap.size + 4) 0 a' b' = Wf := ⟨_, rfl⟩
        have HRf : VPair Wf (w.heap.size + 4) 0 a' b' := hWf ▸ F4.out.put _ _ _
        have HBf : Below w.heap.size w Wf := hWf ▸ below_putPair FB.out (by omega) _ _ _
        rw [hWf]
        clear hWf
        obtain ⟨d0, d1, d2, d3, d4, d5, d6⟩ := HRf
        try dsimp only at d0 d1 d2 d3 d4 d5 d6
        exact bodyPost_ret (v := .agg #[.int .i64 0, .int .i64 a'.push, .bool a'.brk, .bool a'.opn, .int .i64 b'.push, .bool b'.brk, .bool b'.opn]) (by simp [results, Try.results70, go_sem, d0, d1, d2, d3, d4, d5, d6]) rfl ⟨rfl, HBf⟩
theorem pair_ok {h : Hs} {s : Sh} {a b : Cm} (e : Hs.pairK h s a b = 0) : CarOk h s.lo ∧ CarOk h s.up ∧ (-h.pu ≤ a.push ∧ a.push ≤ h.pu) ∧ (-h.pu ≤ b.push ∧ b.push ≤ h.pu) := by
  obtain ⟨e1, e2, e3⟩ := pair_zero e
  obtain ⟨k1, k2, _, _, _⟩ := shaft_parts e1
  have k := Hs.car_zero k1
  exact ⟨k, Hs.car_zero k2, cmd_push k.hf e2, cmd_push k.hf e3⟩
end Go.Proofs.Ytclfdfcakmgffaa
