/-
  The law FnGuards.
-/
import Derived.Test.YtclfdfcakmgffaaGuardU
namespace Go.Proofs.Ytclfdfcakmgffaa
open Go.RowKit Pl
set_option linter.unusedSimpArgs false
set_option linter.unusedVariables false

theorem stepK_zero {h : Hs} {s : Sh} {a b : Cm} {d e : Int} (k : Hs.stepK h s a b d e = 0) : h.shaft s = 0 ∧ (-h.dr ≤ d ∧ d ≤ h.dr) ∧ -h.dr ≤ e ∧ e ≤ h.dr := by
  unfold Hs.stepK at k
  by_cases c : Hs.pairK h s a b = 0
  · rw [if_pos c] at k
    by_cases q : inB d (-h.dr) h.dr = true ∧ inB e (-h.dr) h.dr = true
    · exact ⟨(pair_zero c).1, inB_iff.1 q.1, inB_iff.1 q.2⟩
    · rw [if_neg q] at k
      exact absurd k (by omega)
  · rw [if_neg c] at k
    exact absurd k c
/-- Two cars that step stay apart: the shaft is right, there is spare room, and the upper one is its length higher. -/
theorem step_apart {h : Hs} {s : Sh} {a b : Cm} {d e : Int} (k : Hs.stepK h s a b d e = 0) :
    h.shaft (Hs.stepV h s a b d e) = 0 ∧ 0 ≤ Hs.spareV h (Hs.stepV h s a b d e) ∧ h.ln ≤ (Hs.stepV h s a b d e).up.pos - (Hs.stepV h s a b d e).lo.pos ∧ (Hs.stepV h s a b d e).up.pos ≤ 5000000 ∧ -5000000 ≤ (Hs.stepV h s a b d e).lo.pos ∧ -5000000 ≤ (Hs.stepV h s a b d e).up.pos ∧ (Hs.stepV h s a b d e).lo.pos ≤ 5000000 := by
  obtain ⟨k1, ⟨k2, k3⟩, k4, k5⟩ := stepK_zero k
  have e1 : Hs.stepV h s a b d e = Hs.stepS h s a b d e := if_pos k
  have e2 := stepS_ok (a := a) (b := b) k1 k2 k3 k4 k5
  rw [e1]
  obtain ⟨p1, p2, p3, -, -⟩ := shaft_parts e2
  have q1 := car_env (Hs.car_zero p1)
  have q2 := car_env (Hs.car_zero p2)
  refine ⟨e2, ?_, ?_, by omega, by omega, by omega, by omega⟩
  · unfold Hs.spareV
    rw [if_pos e2]
    unfold Hs.spareP
    omega
  · omega
set_option maxRecDepth 20000 in
set_option maxHeartbeats 16000000 in
theorem guards_walk (a0 : Option Addr) (len0 cap0 : Nat) (w : World) (hc : CodeIn w w.heap.size a0 len0) (hbig : len0 ≤ 1048576) :
    Calls Try.prog 4 #[.slice a0 len0 cap0] w fun e w' => e = .returned (.bool true) ∧ Below w.heap.size w w' := by
  have HC : Hid (CodeIn w w.heap.size a0 len0) := hc
  clear hc
  go_enter Try.func4, Try.ntmps4
  go_wp2_with (first | (go_at_call 6; refine (lwBig_no _ _ _ hbig _).mono ?_; rintro e w' ⟨rfl, hw⟩; obtain rfl := hw.symm; clear hw))
  refine (DrawStepShaft_any a0 len0 cap0 _ HC.out).mono ?_
  rintro e w1 ⟨h, s, x, y, dl, du, rfl, hb⟩
  clear HC hbig
  go_upto_region 4 with fail
  have hsz := hb.size
  obtain ⟨w2, hw2⟩ : ∃ w2, w2 = (((w1.alloc (.cells #[.int .i64 h.fl, .int .i64 h.gp, .int .i64 h.ln, .int .i64 h.rf, .int .i64 h.sp, .int .i64 h.pu, .int .i64 h.br, .int .i64 h.dr, .int .i64 h.lv, .int .i64 h.dO, .int .i64 h.ld, .int .i64 h.qu] 25)).alloc (.cells #[.int .i64 s.lo.pos, .int .i64 s.lo.vel, .int .i64 s.lo.door, .int .i64 s.up.pos, .int .i64 s.up.vel, .int .i64 s.up.door] 40)).alloc (.cells #[.int .i64 x.push, .bool x.brk, .bool x.opn] 29)).alloc (.cells #[.int .i64 y.push, .bool y.brk, .bool y.opn] 29) := ⟨_, rfl⟩
  obtain ⟨b1, hb1⟩ : ∃ b1, b1 = w1.heap.size := ⟨_, rfl⟩
  obtain ⟨b2, hb2⟩ : ∃ b2, b2 = w1.heap.size + 1 := ⟨_, rfl⟩
  obtain ⟨b3, hb3⟩ : ∃ b3, b3 = b2 + 1 := ⟨_, rfl⟩
  obtain ⟨b4, hb4⟩ : ∃ b4, b4 = b3 + 1 := ⟨_, rfl⟩
  have l12 : b1 < b2 := by omega
  have l23 : b2 < b3 := by omega
  have l34 : b3 < b4 := by omega
  have lw1 : w.heap.size ≤ b1 := by omega
  have F0 : Hid (HAt w2 b1 h) := by rw [hw2]; exact (((HAt.at_ w1 h _ _ hb1).alloc _).alloc _).alloc _
  have F1 : Hid (SW w2 b2 s) := by rw [hw2]; exact ((SW.at_ _ s _ _ (by simp; omega)).alloc _).alloc _
  have F2 : Hid (XW w2 b3 x) := by rw [hw2]; exact (XW.at_ _ x _ _ (by simp; omega)).alloc _
  have F3 : Hid (XW w2 b4 y) := by rw [hw2]; exact XW.at_ _ y _ _ (by simp; omega)
  have FB : Hid (Below w.heap.size w w2) := by rw [hw2]; exact (((hb.alloc hb.size _).alloc (by simp; omega) _).alloc (by simp; omega) _).alloc (by simp; omega) _
  rw [← hw2, ← hb2, ← hb3, ← hb4, ← hb1]
  clear hw2 hb1 hb2 hb3 hb4 hb hsz
  obtain ⟨x0_0, x0_1, x0_2, x0_3, x0_4, x0_5, x0_6, x0_7, x0_8, x0_9, x0_10, x0_11⟩ := F0.out
  obtain ⟨x1_0, x1_1, x1_2, x1_3, x1_4, x1_5, -, -, -, -, -, -⟩ := F1.out
  obtain ⟨x2_0, x2_1, x2_2, -, -, -⟩ := F2.out
  obtain ⟨x3_0, x3_1, x3_2, -, -, -⟩ := F3.out
  by_cases hk : Hs.stepK h s x y dl du = 0
  · obtain ⟨g1, g2, g3, g4, g5, g6, g7⟩ := step_apart hk
    obtain ⟨v, hv⟩ : ∃ v, Hs.stepV h s x y dl du = v := ⟨_, rfl⟩
    rw [hv] at g1 g2 g3 g4 g5 g6 g7
    obtain ⟨sp, hsp⟩ : ∃ sp, Hs.spareV h v = sp := ⟨_, rfl⟩
    rw [hsp] at g2
    have ew : IntKind.i64.wrap (v.up.pos - v.lo.pos) = v.up.pos - v.lo.pos := IntWalk.i64_in _ (by omega)
    have t1 : decide (0 ≤ sp) = true := decide_eq_true g2
    have t2 : decide (h.ln ≤ v.up.pos - v.lo.pos) = true := decide_eq_true g3
    go_upto_region 5 with (first | (go_at_call 14; refine (implStepShaft_any h s x y dl du _).mono ?_; rw [hk, hv]; rintro e w3 ⟨rfl, hb⟩; have F0 : Hid (HAt w3 b1 h) := F0.out.below hb F0.out.lt; have F1 : Hid (SW w3 b2 s) := F1.out.below hb F1.out.lt; have F2 : Hid (XW w3 b3 x) := F2.out.below hb F2.out.lt; have F3 : Hid (XW w3 b4 y) := F3.out.below hb F3.out.lt; have FB : Hid (Below w.heap.size w w3) := FB.out.trans (hb.mono FB.out.size); clear hb; obtain ⟨x0_0, x0_1, x0_2, x0_3, x0_4, x0_5, x0_6, x0_7, x0_8, x0_9, x0_10, x0_11⟩ := F0.out; obtain ⟨x1_0, x1_1, x1_2, x1_3, x1_4, x1_5, -, -, -, -, -, -⟩ := F1.out; obtain ⟨x2_0, x2_1, x2_2, -, -, -⟩ := F2.out; obtain ⟨x3_0, x3_1, x3_2, -, -, -⟩ := F3.out) | (refine store_new [.int .i64 0, .int .i64 v.lo.pos, .int .i64 v.lo.vel, .int .i64 v.lo.door, .int .i64 v.up.pos, .int .i64 v.up.vel, .int .i64 v.up.door] 44 _ _ (by kernel_rfl) (by kernel_rfl) (by kernel_rfl) rfl rfl rfl rfl ?_))
    obtain ⟨b5, hbb⟩ : ∃ b, b = w3.heap.size := ⟨_, rfl⟩
    obtain ⟨w4, hw2⟩ : ∃ W, W = w3.alloc (.cells ([.int .i64 0, .int .i64 v.lo.pos, .int .i64 v.lo.vel, .int .i64 v.lo.door, .int .i64 v.up.pos, .int .i64 v.up.vel, .int .i64 v.up.door] : List Value).toArray 44) := ⟨_, rfl⟩
    have F0 : Hid (HAt w4 b1 h) := by rw [hw2]; exact F0.out.alloc _
    have F1 : Hid (SW w4 b2 s) := by rw [hw2]; exact F1.out.alloc _
    have F2 : Hid (XW w4 b3 x) := by rw [hw2]; exact F2.out.alloc _
    have F3 : Hid (XW w4 b4 y) := by rw [hw2]; exact F3.out.alloc _
    have FB : Hid (Below w.heap.size w w4) := by rw [hw2]; exact FB.out.alloc FB.out.size _
    have F4 : Hid (Blk w4 b5 [.int .i64 0, .int .i64 v.lo.pos, .int .i64 v.lo.vel, .int .i64 v.lo.door, .int .i64 v.up.pos, .int .i64 v.up.vel, .int .i64 v.up.door]) := by rw [hw2]; exact Blk.at_ w3 ([.int .i64 0, .int .i64 v.lo.pos, .int .i64 v.lo.vel, .int .i64 v.lo.door, .int .i64 v.up.pos, .int .i64 v.up.vel, .int .i64 v.up.door] : List Value).toArray _ _ hbb
    rw [← hw2, ← hbb]
    clear hbb hw2
    obtain ⟨x0_0, x0_1, x0_2, x0_3, x0_4, x0_5, x0_6, x0_7, x0_8, x0_9, x0_10, x0_11⟩ := F0.out
    have z0 := F4.out.c 0 _ rfl
    have z1 := F4.out.c 1 _ rfl
    have z2 := F4.out.c 2 _ rfl
    have z3 := F4.out.c 3 _ rfl
    have z4 := F4.out.c 4 _ rfl
    have z5 := F4.out.c 5 _ rfl
    have z6 := F4.out.c 6 _ rfl
    go_upto_region 8 with (first | (go_at_call 16; refine (implSpareOf_any h v _).mono ?_; rw [g1, hsp]; rintro e w5 ⟨rfl, hb⟩; have F0 : Hid (HAt w5 b1 h) := F0.out.below hb F0.out.lt; have F4 : Hid (Blk w5 b5 [.int .i64 0, .int .i64 v.lo.pos, .int .i64 v.lo.vel, .int .i64 v.lo.door, .int .i64 v.up.pos, .int .i64 v.up.vel, .int .i64 v.up.door]) := F4.out.below hb F4.out.lt; have FB : Hid (Below w.heap.size w w5) := FB.out.trans (hb.mono FB.out.size); clear hb; obtain ⟨x0_0, x0_1, x0_2, x0_3, x0_4, x0_5, x0_6, x0_7, x0_8, x0_9, x0_10, x0_11⟩ := F0.out) | (refine store_new [.int .i64 0, .int .i64 sp] 33 _ _ (by kernel_rfl) (by kernel_rfl) (by kernel_rfl) rfl rfl rfl rfl ?_))
    clear z0 z1 z2 z3 z4 z5 z6
    obtain ⟨b6, hbb⟩ : ∃ b, b = w5.heap.size := ⟨_, rfl⟩
    obtain ⟨w6, hw2⟩ : ∃ W, W = w5.alloc (.cells ([.int .i64 0, .int .i64 sp] : List Value).toArray 33) := ⟨_, rfl⟩
    have F0 : Hid (HAt w6 b1 h) := by rw [hw2]; exact F0.out.alloc _
    have F4 : Hid (Blk w6 b5 [.int .i64 0, .int .i64 v.lo.pos, .int .i64 v.lo.vel, .int .i64 v.lo.door, .int .i64 v.up.pos, .int .i64 v.up.vel, .int .i64 v.up.door]) := by rw [hw2]; exact F4.out.alloc _
    have FB : Hid (Below w.heap.size w w6) := by rw [hw2]; exact FB.out.alloc FB.out.size _
    have F5 : Hid (Blk w6 b6 [.int .i64 0, .int .i64 sp]) := by rw [hw2]; exact Blk.at_ w5 ([.int .i64 0, .int .i64 sp] : List Value).toArray _ _ hbb
    rw [← hw2, ← hbb]
    clear hbb hw2
    obtain ⟨x0_0, x0_1, x0_2, x0_3, x0_4, x0_5, x0_6, x0_7, x0_8, x0_9, x0_10, x0_11⟩ := F0.out
    have z0 := F4.out.c 0 _ rfl
    have z1 := F4.out.c 1 _ rfl
    have z2 := F4.out.c 2 _ rfl
    have z3 := F4.out.c 3 _ rfl
    have z4 := F4.out.c 4 _ rfl
    have z5 := F4.out.c 5 _ rfl
    have z6 := F4.out.c 6 _ rfl
    have u0 := F5.out.c 0 _ rfl
    have u1 := F5.out.c 1 _ rfl
    go_wp2_with (go_at_call 17; refine (implShaftFault_any h v _).mono ?_; rw [g1]; rintro e w7 ⟨rfl, hb⟩; have F0 : Hid (HAt w7 b1 h) := F0.out.below hb F0.out.lt; have F4 : Hid (Blk w7 b5 [.int .i64 0, .int .i64 v.lo.pos, .int .i64 v.lo.vel, .int .i64 v.lo.door, .int .i64 v.up.pos, .int .i64 v.up.vel, .int .i64 v.up.door]) := F4.out.below hb F4.out.lt; have F5 : Hid (Blk w7 b6 [.int .i64 0, .int .i64 sp]) := F5.out.below hb F5.out.lt; have FB : Hid (Below w.heap.size w w7) := FB.out.trans (hb.mono FB.out.size); clear hb; obtain ⟨x0_0, x0_1, x0_2, x0_3, x0_4, x0_5, x0_6, x0_7, x0_8, x0_9, x0_10, x0_11⟩ := F0.out; have z0 := F4.out.c 0 _ rfl; have z1 := F4.out.c 1 _ rfl; have z2 := F4.out.c 2 _ rfl; have z3 := F4.out.c 3 _ rfl; have z4 := F4.out.c 4 _ rfl; have z5 := F4.out.c 5 _ rfl; have z6 := F4.out.c 6 _ rfl; have u0 := F5.out.c 0 _ rfl; have u1 := F5.out.c 1 _ rfl)
    go_ret
    exact ⟨by simp, FB.out⟩
  · have HV0 : Hid (Hs.stepV h s x y dl du = ⟨⟨0, 0, 0⟩, ⟨0, 0, 0⟩⟩) := if_neg hk
    have hn : (Hs.stepK h s x y dl du != 0) = true := by simpa using hk
    have fp : ∀ W, (Instr.field 44 (.agg #[.int .i64 (Hs.stepK h s x y dl du), .int .i64 0, .int .i64 0, .int .i64 0, .int .i64 0, .int .i64 0, .int .i64 0]) 0).run Try.prog W = .ok (.int .i64 (Hs.stepK h s x y dl du)) W := fun W => by kernel_rfl
    clear hk
    go_upto_region 5 with (first | (go_at_call 14; refine (implStepShaft_any h s x y dl du _).mono ?_; rw [HV0.out]; rintro e w3 ⟨rfl, hb⟩; have F0 : Hid (HAt w3 b1 h) := F0.out.below hb F0.out.lt; have F1 : Hid (SW w3 b2 s) := F1.out.below hb F1.out.lt; have F2 : Hid (XW w3 b3 x) := F2.out.below hb F2.out.lt; have F3 : Hid (XW w3 b4 y) := F3.out.below hb F3.out.lt; have FB : Hid (Below w.heap.size w w3) := FB.out.trans (hb.mono FB.out.size); clear hb; obtain ⟨x0_0, x0_1, x0_2, x0_3, x0_4, x0_5, x0_6, x0_7, x0_8, x0_9, x0_10, x0_11⟩ := F0.out; obtain ⟨x1_0, x1_1, x1_2, x1_3, x1_4, x1_5, -, -, -, -, -, -⟩ := F1.out; obtain ⟨x2_0, x2_1, x2_2, -, -, -⟩ := F2.out; obtain ⟨x3_0, x3_1, x3_2, -, -, -⟩ := F3.out) | (refine store_new [.int .i64 (Hs.stepK h s x y dl du), .int .i64 0, .int .i64 0, .int .i64 0, .int .i64 0, .int .i64 0, .int .i64 0] 44 _ _ (by kernel_rfl) (by kernel_rfl) (by kernel_rfl) rfl rfl rfl rfl ?_))
    obtain ⟨b5, hbb⟩ : ∃ b, b = w3.heap.size := ⟨_, rfl⟩
    obtain ⟨w4, hw2⟩ : ∃ W, W = w3.alloc (.cells ([.int .i64 (Hs.stepK h s x y dl du), .int .i64 0, .int .i64 0, .int .i64 0, .int .i64 0, .int .i64 0, .int .i64 0] : List Value).toArray 44) := ⟨_, rfl⟩
    have F0 : Hid (HAt w4 b1 h) := by rw [hw2]; exact F0.out.alloc _
    have F1 : Hid (SW w4 b2 s) := by rw [hw2]; exact F1.out.alloc _
    have F2 : Hid (XW w4 b3 x) := by rw [hw2]; exact F2.out.alloc _
    have F3 : Hid (XW w4 b4 y) := by rw [hw2]; exact F3.out.alloc _
    have FB : Hid (Below w.heap.size w w4) := by rw [hw2]; exact FB.out.alloc FB.out.size _
    have F4 : Hid (Blk w4 b5 [.int .i64 (Hs.stepK h s x y dl du), .int .i64 0, .int .i64 0, .int .i64 0, .int .i64 0, .int .i64 0, .int .i64 0]) := by rw [hw2]; exact Blk.at_ w3 ([.int .i64 (Hs.stepK h s x y dl du), .int .i64 0, .int .i64 0, .int .i64 0, .int .i64 0, .int .i64 0, .int .i64 0] : List Value).toArray _ _ hbb
    rw [← hw2, ← hbb]
    clear hbb hw2
    have z0_ := F4.out.c 0 _ rfl
    go_wp2_with fail
    clear z0_
    have F0 : Hid (HAt w4.drew b1 h) := F0.out.below (Below.refl _ _).drew F0.out.lt
    have F1 : Hid (SW w4.drew b2 s) := F1.out.below (Below.refl _ _).drew F1.out.lt
    have F2 : Hid (XW w4.drew b3 x) := F2.out.below (Below.refl _ _).drew F2.out.lt
    have F3 : Hid (XW w4.drew b4 y) := F3.out.below (Below.refl _ _).drew F3.out.lt
    have F4 : Hid (Blk w4.drew b5 [.int .i64 (Hs.stepK h s x y dl du), .int .i64 0, .int .i64 0, .int .i64 0, .int .i64 0, .int .i64 0, .int .i64 0]) := F4.out.below (Below.refl _ _).drew F4.out.lt
    have FB : Hid (Below w.heap.size w w4.drew) := FB.out.drew
    obtain ⟨x0_0, x0_1, x0_2, x0_3, x0_4, x0_5, x0_6, x0_7, x0_8, x0_9, x0_10, x0_11⟩ := F0.out
    obtain ⟨x1_0, x1_1, x1_2, x1_3, x1_4, x1_5, y1_0, y1_1, y1_2, y1_3, y1_4, y1_5⟩ := F1.out
    obtain ⟨x2_0, x2_1, x2_2, y2_0, y2_1, y2_2⟩ := F2.out
    obtain ⟨x3_0, x3_1, x3_2, y3_0, y3_1, y3_2⟩ := F3.out
    have z0_ := F4.out.c 0 _ rfl
    refine wp_region_held_drew (S := (fun w'' => w''.cell? ⟨b1, 0, none⟩ = some (.int .i64 h.fl) ∧ w''.cell? ⟨b1, 1, none⟩ = some (.int .i64 h.gp) ∧ w''.cell? ⟨b1, 2, none⟩ = some (.int .i64 h.ln) ∧ w''.cell? ⟨b1, 3, none⟩ = some (.int .i64 h.rf) ∧ w''.cell? ⟨b1, 4, none⟩ = some (.int .i64 h.sp) ∧ w''.cell? ⟨b1, 5, none⟩ = some (.int .i64 h.pu) ∧ w''.cell? ⟨b1, 6, none⟩ = some (.int .i64 h.br) ∧ w''.cell? ⟨b1, 7, none⟩ = some (.int .i64 h.dr) ∧ w''.cell? ⟨b1, 8, none⟩ = some (.int .i64 h.lv) ∧ w''.cell? ⟨b1, 9, none⟩ = some (.int .i64 h.dO) ∧ w''.cell? ⟨b1, 10, none⟩ = some (.int .i64 h.ld) ∧ w''.cell? ⟨b1, 11, none⟩ = some (.int .i64 h.qu) ∧ w''.cell? ⟨b2, 0, none⟩ = some (.int .i64 s.lo.pos) ∧ w''.cell? ⟨b2, 1, none⟩ = some (.int .i64 s.lo.vel) ∧ w''.cell? ⟨b2, 2, none⟩ = some (.int .i64 s.lo.door) ∧ w''.cell? ⟨b2, 3, none⟩ = some (.int .i64 s.up.pos) ∧ w''.cell? ⟨b2, 4, none⟩ = some (.int .i64 s.up.vel) ∧ w''.cell? ⟨b2, 5, none⟩ = some (.int .i64 s.up.door) ∧ w''.cell? ⟨b3, 0, none⟩ = some (.int .i64 x.push) ∧ w''.cell? ⟨b3, 1, none⟩ = some (.bool x.brk) ∧ w''.cell? ⟨b3, 2, none⟩ = some (.bool x.opn) ∧ w''.cell? ⟨b4, 0, none⟩ = some (.int .i64 y.push) ∧ w''.cell? ⟨b4, 1, none⟩ = some (.bool y.brk) ∧ w''.cell? ⟨b4, 2, none⟩ = some (.bool y.opn) ∧ w''.cell? ⟨b5, 0, none⟩ = some (.int .i64 (Hs.stepK h s x y dl du)))) (by kernel_rfl) (by (try dsimp only); first | exact ⟨x0_0, x0_1, x0_2, x0_3, x0_4, x0_5, x0_6, x0_7, x0_8, x0_9, x0_10, x0_11, x1_0, x1_1, x1_2, x1_3, x1_4, x1_5, x2_0, x2_1, x2_2, x3_0, x3_1, x3_2, z0_⟩ | go_keep) (fun hHeld => ?_)
    obtain ⟨v_1, hw1⟩ : ∃ v_1, v_1 = w4.drew := ⟨_, rfl⟩
    have F0 : Hid (HAt v_1 b1 h) := by rw [hw1]; exact F0.out
    have F1 : Hid (SW v_1 b2 s) := by rw [hw1]; exact F1.out
    have F2 : Hid (XW v_1 b3 x) := by rw [hw1]; exact F2.out
    have F3 : Hid (XW v_1 b4 y) := by rw [hw1]; exact F3.out
    have F4 : Hid (Blk v_1 b5 [.int .i64 (Hs.stepK h s x y dl du), .int .i64 0, .int .i64 0, .int .i64 0, .int .i64 0, .int .i64 0, .int .i64 0]) := by rw [hw1]; exact F4.out
    have FB : Hid (Below w.heap.size w v_1) := by rw [hw1]; exact FB.out
    rw [← hw1] at hHeld ⊢
    clear hw1
    obtain ⟨x0_0, x0_1, x0_2, x0_3, x0_4, x0_5, x0_6, x0_7, x0_8, x0_9, x0_10, x0_11⟩ := F0.out
    obtain ⟨x1_0, x1_1, x1_2, x1_3, x1_4, x1_5, y1_0, y1_1, y1_2, y1_3, y1_4, y1_5⟩ := F1.out
    obtain ⟨x2_0, x2_1, x2_2, y2_0, y2_1, y2_2⟩ := F2.out
    obtain ⟨x3_0, x3_1, x3_2, y3_0, y3_1, y3_2⟩ := F3.out
    have z0_ := F4.out.c 0 _ rfl
    refine tkz 0 rfl ?_
    refine tkz 1 rfl ?_
    refine tkz 2 rfl ?_
    refine tkz 3 rfl ?_
    refine tkz 4 rfl ?_
    refine tkz 5 rfl ?_
    refine tkz 8 rfl ?_
    refine tkz 9 rfl ?_
    refine wpAnyH_ready (rs := [6]) (by kernel_rfl) (by simp) ?_
    refine (AllReadyH.cons rfl (fun K hK => ?_) AllReadyH.nil)
    go_simp
    refine ((specStepShaft_any h s x y dl du _).mono (fun _ _ q => HV0.out ▸ q)).mono ?_
    rintro e v_2 ⟨rfl, hb⟩
    have F0 : Hid (HAt v_2 b1 h) := F0.out.below hb F0.out.lt
    have F1 : Hid (SW v_2 b2 s) := F1.out.below hb F1.out.lt
    have F2 : Hid (XW v_2 b3 x) := F2.out.below hb F2.out.lt
    have F3 : Hid (XW v_2 b4 y) := F3.out.below hb F3.out.lt
    have F4 : Hid (Blk v_2 b5 [.int .i64 (Hs.stepK h s x y dl du), .int .i64 0, .int .i64 0, .int .i64 0, .int .i64 0, .int .i64 0, .int .i64 0]) := F4.out.below hb F4.out.lt
    have FB : Hid (Below w.heap.size w v_2) := FB.out.trans (hb.mono FB.out.size)
    clear hb
    obtain ⟨x0_0, x0_1, x0_2, x0_3, x0_4, x0_5, x0_6, x0_7, x0_8, x0_9, x0_10, x0_11⟩ := F0.out
    obtain ⟨x1_0, x1_1, x1_2, x1_3, x1_4, x1_5, y1_0, y1_1, y1_2, y1_3, y1_4, y1_5⟩ := F1.out
    obtain ⟨x2_0, x2_1, x2_2, y2_0, y2_1, y2_2⟩ := F2.out
    obtain ⟨x3_0, x3_1, x3_2, y3_0, y3_1, y3_2⟩ := F3.out
    have z0_ := F4.out.c 0 _ rfl
    try dsimp only
    refine hK.out _ _ (by (try dsimp only); first | exact ⟨x0_0, x0_1, x0_2, x0_3, x0_4, x0_5, x0_6, x0_7, x0_8, x0_9, x0_10, x0_11, x1_0, x1_1, x1_2, x1_3, x1_4, x1_5, x2_0, x2_1, x2_2, x3_0, x3_1, x3_2, z0_⟩ | go_keep) (fun hHeld => ?_)
    clear hK K
    try simp only [Act.put, List.getElem_toArray, List.getElem_cons_succ, List.getElem_cons_zero, List.setIfInBounds_toArray, List.set_cons_zero, List.set_cons_succ]
    refine tkz 7 rfl ?_
    refine tkz 10 rfl ?_
    refine tkz 11 rfl ?_
    refine wpAnyH_done (by kernel_rfl) ?_ _
    go_wp2_with fail
    go_ret
    exact ⟨by simp, FB.out⟩
end Go.Proofs.Ytclfdfcakmgffaa
