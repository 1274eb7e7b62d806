/-
  The program's spans: ReleaseSpans.
-/
import Derived.Test.YtpfihpplpefikaaSpanN
import Derived.Test.YtpfihpplpefikaaSpanH
import Derived.Test.YtpfihpplpefikaaSpanJ
import Derived.Test.YtpfihpplpefikaaSpanG
import Derived.Test.YtpfihpplpefikaaCarK
namespace Go.Proofs.Ytpfihpplpefikaa
open Go.RowKit Pl Go.Maps
set_option linter.unusedSimpArgs false
set_option linter.unusedVariables false

theorem RSps.drew {W : World} {b : Nat} (a : RSps W b) : RSps W.drew b := a.below (Below.refl W.heap.size W).drew a.lt
/-- giveBack, told as what it leaves below a block. -/
theorem giveBack_below (b n B : Nat) (S : Int → Option Int) (cv : Ss) (hS : ∀ f c, S f = some c → -1 ≤ f ∧ f ≤ 1000) (hc : ∀ f c, S f = some c → c = 0 ∨ c = 1) (hB : B ≤ b) (w : World) (hm : Held w b n S) :
    Calls Try.prog 37 #[.map (some b), .agg #[.int .i64 cv.l.lo, .int .i64 cv.l.hi, .int .i64 cv.u.lo, .int .i64 cv.u.hi]] w fun e w' => e = .returned (.tuple #[]) ∧ Held w' b n (cutM S cv) ∧ Below B w w' := by
  refine (giveBack_any b n S cv hS hc w hm).mono ?_
  rintro e w' ⟨h1, h2, h3⟩
  have hl := hm.lt
  exact ⟨h1, h2, (Below.refl B w).grown h3 (by omega) (fun k hk => by cases hk; exact hB)⟩
theorem upS_bd {x : Ss} {z : Int} (l1 : -1 ≤ x.l.lo) (k : x.l.hi < x.u.lo) (l2 : x.l.lo ≤ x.l.hi) (u2 : z ≤ 900) (h2 : x.l.hi ≤ 900) : ∀ f c, upS x z f = some c → -1 ≤ f ∧ f ≤ 1000 := by
  intro f c h
  unfold upS at h
  split at h
  · omega
  · split at h
    · omega
    · cases h
set_option maxRecDepth 20000 in
set_option maxHeartbeats 16000000 in
theorem implReleaseSpans_any (h : Hs) (x : Ss) (s : Sh) (w : World) :
    Calls Try.prog 13 #[.agg #[.int .i64 h.fl, .int .i64 h.gp, .int .i64 h.ln, .int .i64 h.rf, .int .i64 h.sp, .int .i64 h.pu, .int .i64 h.br, .int .i64 h.dr, .int .i64 h.lv, .int .i64 h.dO, .int .i64 h.ld, .int .i64 h.qu], .agg #[.int .i64 x.l.lo, .int .i64 x.l.hi, .int .i64 x.u.lo, .int .i64 x.u.hi], .agg #[.int .i64 s.lo.pos, .int .i64 s.lo.vel, .int .i64 s.lo.door, .int .i64 s.up.pos, .int .i64 s.up.vel, .int .i64 s.up.door]] w (isSps w (Hs.relK h x s) (Hs.relV h x s)) := by
  have F0 : Hid (HAt ((((w.alloc (.cells #[.int .i64 h.fl, .int .i64 h.gp, .int .i64 h.ln, .int .i64 h.rf, .int .i64 h.sp, .int .i64 h.pu, .int .i64 h.br, .int .i64 h.dr, .int .i64 h.lv, .int .i64 h.dO, .int .i64 h.ld, .int .i64 h.qu] 25)).alloc (.cells #[.int .i64 x.l.lo, .int .i64 x.l.hi, .int .i64 x.u.lo, .int .i64 x.u.hi] 29)).alloc (.cells #[.int .i64 s.lo.pos, .int .i64 s.lo.vel, .int .i64 s.lo.door, .int .i64 s.up.pos, .int .i64 s.up.vel, .int .i64 s.up.door] 40)).alloc (.cells #[.int .i64 0, .int .i64 0, .int .i64 0, .int .i64 0, .int .i64 0] 33)).drew w.heap.size h) := ((((HAt.at_ w h _ _ (by simp)).alloc _).alloc _).alloc _).drew
  have F1 : Hid (NW ((((w.alloc (.cells #[.int .i64 h.fl, .int .i64 h.gp, .int .i64 h.ln, .int .i64 h.rf, .int .i64 h.sp, .int .i64 h.pu, .int .i64 h.br, .int .i64 h.dr, .int .i64 h.lv, .int .i64 h.dO, .int .i64 h.ld, .int .i64 h.qu] 25)).alloc (.cells #[.int .i64 x.l.lo, .int .i64 x.l.hi, .int .i64 x.u.lo, .int .i64 x.u.hi] 29)).alloc (.cells #[.int .i64 s.lo.pos, .int .i64 s.lo.vel, .int .i64 s.lo.door, .int .i64 s.up.pos, .int .i64 s.up.vel, .int .i64 s.up.door] 40)).alloc (.cells #[.int .i64 0, .int .i64 0, .int .i64 0, .int .i64 0, .int .i64 0] 33)).drew (w.heap.size + 1) x) := (((NW.at_ (w.alloc (.cells #[.int .i64 h.fl, .int .i64 h.gp, .int .i64 h.ln, .int .i64 h.rf, .int .i64 h.sp, .int .i64 h.pu, .int .i64 h.br, .int .i64 h.dr, .int .i64 h.lv, .int .i64 h.dO, .int .i64 h.ld, .int .i64 h.qu] 25)) x _ _ (by simp)).alloc _).alloc _).drew
  have F2 : Hid (SW ((((w.alloc (.cells #[.int .i64 h.fl, .int .i64 h.gp, .int .i64 h.ln, .int .i64 h.rf, .int .i64 h.sp, .int .i64 h.pu, .int .i64 h.br, .int .i64 h.dr, .int .i64 h.lv, .int .i64 h.dO, .int .i64 h.ld, .int .i64 h.qu] 25)).alloc (.cells #[.int .i64 x.l.lo, .int .i64 x.l.hi, .int .i64 x.u.lo, .int .i64 x.u.hi] 29)).alloc (.cells #[.int .i64 s.lo.pos, .int .i64 s.lo.vel, .int .i64 s.lo.door, .int .i64 s.up.pos, .int .i64 s.up.vel, .int .i64 s.up.door] 40)).alloc (.cells #[.int .i64 0, .int .i64 0, .int .i64 0, .int .i64 0, .int .i64 0] 33)).drew (w.heap.size + 2) s) := ((SW.at_ ((w.alloc (.cells #[.int .i64 h.fl, .int .i64 h.gp, .int .i64 h.ln, .int .i64 h.rf, .int .i64 h.sp, .int .i64 h.pu, .int .i64 h.br, .int .i64 h.dr, .int .i64 h.lv, .int .i64 h.dO, .int .i64 h.ld, .int .i64 h.qu] 25)).alloc (.cells #[.int .i64 x.l.lo, .int .i64 x.l.hi, .int .i64 x.u.lo, .int .i64 x.u.hi] 29)) s _ _ (by simp)).alloc _).drew
  have F3 : Hid (RSps ((((w.alloc (.cells #[.int .i64 h.fl, .int .i64 h.gp, .int .i64 h.ln, .int .i64 h.rf, .int .i64 h.sp, .int .i64 h.pu, .int .i64 h.br, .int .i64 h.dr, .int .i64 h.lv, .int .i64 h.dO, .int .i64 h.ld, .int .i64 h.qu] 25)).alloc (.cells #[.int .i64 x.l.lo, .int .i64 x.l.hi, .int .i64 x.u.lo, .int .i64 x.u.hi] 29)).alloc (.cells #[.int .i64 s.lo.pos, .int .i64 s.lo.vel, .int .i64 s.lo.door, .int .i64 s.up.pos, .int .i64 s.up.vel, .int .i64 s.up.door] 40)).alloc (.cells #[.int .i64 0, .int .i64 0, .int .i64 0, .int .i64 0, .int .i64 0] 33)).drew (w.heap.size + 3)) := (RSps.at_ (((w.alloc (.cells #[.int .i64 h.fl, .int .i64 h.gp, .int .i64 h.ln, .int .i64 h.rf, .int .i64 h.sp, .int .i64 h.pu, .int .i64 h.br, .int .i64 h.dr, .int .i64 h.lv, .int .i64 h.dO, .int .i64 h.ld, .int .i64 h.qu] 25)).alloc (.cells #[.int .i64 x.l.lo, .int .i64 x.l.hi, .int .i64 x.u.lo, .int .i64 x.u.hi] 29)).alloc (.cells #[.int .i64 s.lo.pos, .int .i64 s.lo.vel, .int .i64 s.lo.door, .int .i64 s.up.pos, .int .i64 s.up.vel, .int .i64 s.up.door] 40)) _ _ (by simp)).drew
  have FB : Hid (Below w.heap.size w ((((w.alloc (.cells #[.int .i64 h.fl, .int .i64 h.gp, .int .i64 h.ln, .int .i64 h.rf, .int .i64 h.sp, .int .i64 h.pu, .int .i64 h.br, .int .i64 h.dr, .int .i64 h.lv, .int .i64 h.dO, .int .i64 h.ld, .int .i64 h.qu] 25)).alloc (.cells #[.int .i64 x.l.lo, .int .i64 x.l.hi, .int .i64 x.u.lo, .int .i64 x.u.hi] 29)).alloc (.cells #[.int .i64 s.lo.pos, .int .i64 s.lo.vel, .int .i64 s.lo.door, .int .i64 s.up.pos, .int .i64 s.up.vel, .int .i64 s.up.door] 40)).alloc (.cells #[.int .i64 0, .int .i64 0, .int .i64 0, .int .i64 0, .int .i64 0] 33)).drew) := (((((Below.refl _ _).alloc (Nat.le_refl _) _).alloc (by simp <;> omega) _).alloc (by simp <;> omega) _).alloc (by simp <;> omega) _).drew
  obtain ⟨x0_0, x0_1, x0_2, x0_3, x0_4, x0_5, x0_6, x0_7, x0_8, x0_9, x0_10, x0_11⟩ := F0.out
  obtain ⟨x1_0, x1_1, x1_2, x1_3, y1_0, y1_1, y1_2, y1_3⟩ := F1.out
  obtain ⟨x2_0, x2_1, x2_2, x2_3, x2_4, x2_5, y2_0, y2_1, y2_2, y2_3, y2_4, y2_5⟩ := F2.out
  obtain ⟨x3_0, x3_1, x3_2, x3_3, x3_4, y3_0, y3_1, y3_2, y3_3, y3_4⟩ := F3.out
  by_cases hf : Hs.spans h x = 0
  · have q0 : Hs.relK h x s = h.shaft s := by unfold Hs.relK; rw [if_pos hf]
    by_cases hs : h.shaft s = 0
    · obtain ⟨y, hy⟩ : ∃ y, Hs.relS h x s = y := ⟨_, rfl⟩
      have q2 : Hs.relV h x s = y := by unfold Hs.relV; rw [q0, if_pos hs]; exact hy
      rw [q0, q2, hs]
      obtain ⟨k1, k2, _, _, _⟩ := shaft_parts hs
      have HL : Hid (CarOk h s.lo) := Hs.car_zero k1
      have HU : Hid (CarOk h s.up) := Hs.car_zero k2
      obtain ⟨g1, hg1⟩ : ∃ g1, Hs.cover h s.lo = g1 := ⟨_, rfl⟩
      obtain ⟨g2, hg2⟩ : ∃ g2, Hs.cover h s.up = g2 := ⟨_, rfl⟩
      have HG1 : Hid (Hs.cover h s.lo = g1) := hg1
      have HG2 : Hid (Hs.cover h s.up = g2) := hg2
      have HY1 : Hid (cutS x.l g1 = y.l) := by rw [← hy, ← hg1]; exact rfl
      have HY2 : Hid (cutS x.u g2 = y.u) := by rw [← hy, ← hg2]; exact rfl
      obtain ⟨z1, z2, z3, z4, z5, z6⟩ := spans_zero hf
      have oo := Hs.ok_of (Hs.fault_zero z1).1
      have l1 := oo.fl2
      have HX : Hid (x.l.lo ≤ x.l.hi ∧ x.l.hi < x.u.lo ∧ x.u.lo ≤ x.u.hi) := ⟨by omega, by omega, by omega⟩
      have HS : Hid (∀ f c, (upS x (x.u.hi + 1)) f = some c → -1 ≤ f ∧ f ≤ 1000) := upS_bd (by omega) (by omega) (by omega) (by omega) (by omega)
      have HC : Hid (∀ f c, (upS x (x.u.hi + 1)) f = some c → c = 0 ∨ c = 1) := fun f c h => upS_car h
      have HSC : Hid (∀ f c, (cutM (upS x (x.u.hi + 1)) (⟨g1, g2⟩ : Ss)) f = some c → -1 ≤ f ∧ f ≤ 1000) := fun f c h => HS.out f c (cutM_car h)
      clear q0 q2 hy k1 k2 hg1 hg2 oo z1
      go_enter Try.func13, Try.ntmps13
      go_wp2_with fail
      refine wp_region_held_drew (S := (fun w'' => w''.cell? ⟨w.heap.size, 0, none⟩ = some (.int .i64 h.fl) ∧ w''.cell? ⟨w.heap.size, 1, none⟩ = some (.int .i64 h.gp) ∧ w''.cell? ⟨w.heap.size, 2, none⟩ = some (.int .i64 h.ln) ∧ w''.cell? ⟨w.heap.size, 3, none⟩ = some (.int .i64 h.rf) ∧ w''.cell? ⟨w.heap.size, 4, none⟩ = some (.int .i64 h.sp) ∧ w''.cell? ⟨w.heap.size, 5, none⟩ = some (.int .i64 h.pu) ∧ w''.cell? ⟨w.heap.size, 6, none⟩ = some (.int .i64 h.br) ∧ w''.cell? ⟨w.heap.size, 7, none⟩ = some (.int .i64 h.dr) ∧ w''.cell? ⟨w.heap.size, 8, none⟩ = some (.int .i64 h.lv) ∧ w''.cell? ⟨w.heap.size, 9, none⟩ = some (.int .i64 h.dO) ∧ w''.cell? ⟨w.heap.size, 10, none⟩ = some (.int .i64 h.ld) ∧ w''.cell? ⟨w.heap.size, 11, none⟩ = some (.int .i64 h.qu) ∧ w''.cell? ⟨(w.heap.size + 1), 0, none⟩ = some (.int .i64 x.l.lo) ∧ w''.cell? ⟨(w.heap.size + 1), 1, none⟩ = some (.int .i64 x.l.hi) ∧ w''.cell? ⟨(w.heap.size + 1), 2, none⟩ = some (.int .i64 x.u.lo) ∧ w''.cell? ⟨(w.heap.size + 1), 3, none⟩ = some (.int .i64 x.u.hi) ∧ w''.cell? ⟨(w.heap.size + 2), 0, none⟩ = some (.int .i64 s.lo.pos) ∧ w''.cell? ⟨(w.heap.size + 2), 1, none⟩ = some (.int .i64 s.lo.vel) ∧ w''.cell? ⟨(w.heap.size + 2), 2, none⟩ = some (.int .i64 s.lo.door) ∧ w''.cell? ⟨(w.heap.size + 2), 3, none⟩ = some (.int .i64 s.up.pos) ∧ w''.cell? ⟨(w.heap.size + 2), 4, none⟩ = some (.int .i64 s.up.vel) ∧ w''.cell? ⟨(w.heap.size + 2), 5, none⟩ = some (.int .i64 s.up.door) ∧ w''.cell? ⟨(w.heap.size + 3), 0, none⟩ = some (.int .i64 0) ∧ w''.cell? ⟨(w.heap.size + 3), 1, none⟩ = some (.int .i64 0) ∧ w''.cell? ⟨(w.heap.size + 3), 2, none⟩ = some (.int .i64 0) ∧ w''.cell? ⟨(w.heap.size + 3), 3, none⟩ = some (.int .i64 0) ∧ w''.cell? ⟨(w.heap.size + 3), 4, none⟩ = some (.int .i64 0))) (by kernel_rfl) (by (try dsimp only); first | exact ⟨x0_0, x0_1, x0_2, x0_3, x0_4, x0_5, x0_6, x0_7, x0_8, x0_9, x0_10, x0_11, x1_0, x1_1, x1_2, x1_3, x2_0, x2_1, x2_2, x2_3, x2_4, x2_5, x3_0, x3_1, x3_2, x3_3, x3_4⟩ | go_keep) (fun hHeld => ?_)
      refine tkz 0 rfl ?_
      refine tkz 1 rfl ?_
      refine tkz 3 rfl ?_
      refine tkz 4 rfl ?_
      refine wpAnyH_ready (rs := [2]) (by kernel_rfl) (by simp) ?_
      refine AllReadyH.cons rfl (fun K hK => ?_) AllReadyH.nil
      go_simp
      refine (implSpansFault_any h x _).mono ?_
      rw [hf]
      rintro e w1 ⟨rfl, hb⟩
      have F0 : Hid (HAt w1 w.heap.size h) := F0.out.below hb F0.out.lt
      have F1 : Hid (NW w1 (w.heap.size + 1) x) := F1.out.below hb F1.out.lt
      have F2 : Hid (SW w1 (w.heap.size + 2) s) := F2.out.below hb F2.out.lt
      have F3 : Hid (RSps w1 (w.heap.size + 3)) := F3.out.below hb F3.out.lt
      have FB : Hid (Below w.heap.size w w1) := FB.out.trans (hb.mono FB.out.size)
      obtain ⟨x0_0, x0_1, x0_2, x0_3, x0_4, x0_5, x0_6, x0_7, x0_8, x0_9, x0_10, x0_11⟩ := F0.out
      obtain ⟨x1_0, x1_1, x1_2, x1_3, y1_0, y1_1, y1_2, y1_3⟩ := F1.out
      obtain ⟨x2_0, x2_1, x2_2, x2_3, x2_4, x2_5, y2_0, y2_1, y2_2, y2_3, y2_4, y2_5⟩ := F2.out
      obtain ⟨x3_0, x3_1, x3_2, x3_3, x3_4, y3_0, y3_1, y3_2, y3_3, y3_4⟩ := F3.out
      clear hb
      try go_wp2_with fail
      refine hK.out _ _ (by (try dsimp only); go_keep) (fun hHeld => ?_)
      clear hK K
      try simp only [Act.put, List.getElem_toArray, List.getElem_cons_succ, List.getElem_cons_zero, List.setIfInBounds_toArray, List.set_cons_zero, List.set_cons_succ]
      refine wpAnyH_ready (rs := [5]) (by kernel_rfl) (by simp) ?_
      refine AllReadyH.cons rfl (fun K hK => ?_) AllReadyH.nil
      go_simp
      refine (implShaftFault_any h s _).mono ?_
      rw [hs]
      rintro e w2 ⟨rfl, hb⟩
      have F0 : Hid (HAt w2 w.heap.size h) := F0.out.below hb F0.out.lt
      have F1 : Hid (NW w2 (w.heap.size + 1) x) := F1.out.below hb F1.out.lt
      have F2 : Hid (SW w2 (w.heap.size + 2) s) := F2.out.below hb F2.out.lt
      have F3 : Hid (RSps w2 (w.heap.size + 3)) := F3.out.below hb F3.out.lt
      have FB : Hid (Below w.heap.size w w2) := FB.out.trans (hb.mono FB.out.size)
      obtain ⟨x0_0, x0_1, x0_2, x0_3, x0_4, x0_5, x0_6, x0_7, x0_8, x0_9, x0_10, x0_11⟩ := F0.out
      obtain ⟨x1_0, x1_1, x1_2, x1_3, y1_0, y1_1, y1_2, y1_3⟩ := F1.out
      obtain ⟨x2_0, x2_1, x2_2, x2_3, x2_4, x2_5, y2_0, y2_1, y2_2, y2_3, y2_4, y2_5⟩ := F2.out
      obtain ⟨x3_0, x3_1, x3_2, x3_3, x3_4, y3_0, y3_1, y3_2, y3_3, y3_4⟩ := F3.out
      clear hb
      try go_wp2_with fail
      refine hK.out _ _ (by (try dsimp only); go_keep) (fun hHeld => ?_)
      clear hK K
      try simp only [Act.put, List.getElem_toArray, List.getElem_cons_succ, List.getElem_cons_zero, List.setIfInBounds_toArray, List.set_cons_zero, List.set_cons_succ]
      refine wpAnyH_ready (rs := [6]) (by kernel_rfl) (by simp) ?_
      refine AllReadyH.cons rfl (fun K hK => ?_) AllReadyH.nil
      go_simp
      have F0 : Hid (HAt (w2.alloc (.cells #[.int .i64 0, .int .i64 0] 2)) w.heap.size h) := F0.out.alloc _
      have F1 : Hid (NW (w2.alloc (.cells #[.int .i64 0, .int .i64 0] 2)) (w.heap.size + 1) x) := F1.out.alloc _
      have F2 : Hid (SW (w2.alloc (.cells #[.int .i64 0, .int .i64 0] 2)) (w.heap.size + 2) s) := F2.out.alloc _
      have F3 : Hid (RSps (w2.alloc (.cells #[.int .i64 0, .int .i64 0] 2)) (w.heap.size + 3)) := F3.out.alloc _
      have FB : Hid (Below w.heap.size w (w2.alloc (.cells #[.int .i64 0, .int .i64 0] 2))) := FB.out.alloc FB.out.size _
      obtain ⟨x0_0, x0_1, x0_2, x0_3, x0_4, x0_5, x0_6, x0_7, x0_8, x0_9, x0_10, x0_11⟩ := F0.out
      obtain ⟨x1_0, x1_1, x1_2, x1_3, y1_0, y1_1, y1_2, y1_3⟩ := F1.out
      obtain ⟨x2_0, x2_1, x2_2, x2_3, x2_4, x2_5, y2_0, y2_1, y2_2, y2_3, y2_4, y2_5⟩ := F2.out
      obtain ⟨x3_0, x3_1, x3_2, x3_3, x3_4, y3_0, y3_1, y3_2, y3_3, y3_4⟩ := F3.out
      refine hK.out _ _ (by (try dsimp only); go_keep) (fun hHeld => ?_)
      clear hK K
      try simp only [Act.put, List.getElem_toArray, List.getElem_cons_succ, List.getElem_cons_zero, List.setIfInBounds_toArray, List.set_cons_zero, List.set_cons_succ]
      refine wpAnyH_ready (rs := [7]) (by kernel_rfl) (by simp) ?_
      refine AllReadyH.cons rfl (fun K hK => ?_) AllReadyH.nil
      go_simp
      refine (or_second 0 0 rfl _ _ (by simp) (by simp)).mono ?_
      rintro e w' ⟨rfl, hw⟩
      obtain rfl := hw.symm
      clear hw
      try go_wp2_with fail
      refine hK.out _ _ (by (try dsimp only); go_keep) (fun hHeld => ?_)
      clear hK K
      try simp only [Act.put, List.getElem_toArray, List.getElem_cons_succ, List.getElem_cons_zero, List.setIfInBounds_toArray, List.set_cons_zero, List.set_cons_succ]
      refine tkz 8 rfl ?_
      refine wpAnyH_done (by kernel_rfl) ?_ _
      go_upto_region 5 with (go_at_call 36; refine (heldFloors_any x (by omega) (by omega) (by omega) (by omega) (by omega) _).mono ?_; rintro e w4 ⟨mb, nn, rfl, hmb, hnn, hm, hb⟩; have FM : Hid (Held w4 mb nn (upS x (x.u.hi + 1))) := hm; have lmb : w.heap.size + 4 ≤ mb := Nat.le_trans F3.out.lt hmb; clear hm hnn hmb; have F0 : Hid (HAt w4 w.heap.size h) := F0.out.below hb F0.out.lt; have F1 : Hid (NW w4 (w.heap.size + 1) x) := F1.out.below hb F1.out.lt; have F2 : Hid (SW w4 (w.heap.size + 2) s) := F2.out.below hb F2.out.lt; have F3 : Hid (RSps w4 (w.heap.size + 3)) := F3.out.below hb F3.out.lt; have FB : Hid (Below w.heap.size w w4) := FB.out.trans (hb.mono FB.out.size); obtain ⟨x0_0, x0_1, x0_2, x0_3, x0_4, x0_5, x0_6, x0_7, x0_8, x0_9, x0_10, x0_11⟩ := F0.out; obtain ⟨x1_0, x1_1, x1_2, x1_3, y1_0, y1_1, y1_2, y1_3⟩ := F1.out; obtain ⟨x2_0, x2_1, x2_2, x2_3, x2_4, x2_5, y2_0, y2_1, y2_2, y2_3, y2_4, y2_5⟩ := F2.out; obtain ⟨x3_0, x3_1, x3_2, x3_3, x3_4, y3_0, y3_1, y3_2, y3_3, y3_4⟩ := F3.out; clear hb)
      replace F0 : Hid (HAt w4.drew w.heap.size h) := F0.out.below (Below.refl _ _).drew F0.out.lt
      replace F1 : Hid (NW w4.drew (w.heap.size + 1) x) := F1.out.below (Below.refl _ _).drew F1.out.lt
      replace F2 : Hid (SW w4.drew (w.heap.size + 2) s) := F2.out.below (Below.refl _ _).drew F2.out.lt
      replace F3 : Hid (RSps w4.drew (w.heap.size + 3)) := F3.out.below (Below.refl _ _).drew F3.out.lt
      replace FB : Hid (Below w.heap.size w w4.drew) := FB.out.drew
      replace FM : Hid (Held w4.drew mb nn (upS x (x.u.hi + 1))) := FM.out.drew
      obtain ⟨x0_0, x0_1, x0_2, x0_3, x0_4, x0_5, x0_6, x0_7, x0_8, x0_9, x0_10, x0_11⟩ := F0.out
      obtain ⟨x1_0, x1_1, x1_2, x1_3, y1_0, y1_1, y1_2, y1_3⟩ := F1.out
      obtain ⟨x2_0, x2_1, x2_2, x2_3, x2_4, x2_5, y2_0, y2_1, y2_2, y2_3, y2_4, y2_5⟩ := F2.out
      refine wp_region_held_drew (S := (fun w'' => w''.cell? ⟨w.heap.size, 0, none⟩ = some (.int .i64 h.fl) ∧ w''.cell? ⟨w.heap.size, 1, none⟩ = some (.int .i64 h.gp) ∧ w''.cell? ⟨w.heap.size, 2, none⟩ = some (.int .i64 h.ln) ∧ w''.cell? ⟨w.heap.size, 3, none⟩ = some (.int .i64 h.rf) ∧ w''.cell? ⟨w.heap.size, 4, none⟩ = some (.int .i64 h.sp) ∧ w''.cell? ⟨w.heap.size, 5, none⟩ = some (.int .i64 h.pu) ∧ w''.cell? ⟨w.heap.size, 6, none⟩ = some (.int .i64 h.br) ∧ w''.cell? ⟨w.heap.size, 7, none⟩ = some (.int .i64 h.dr) ∧ w''.cell? ⟨w.heap.size, 8, none⟩ = some (.int .i64 h.lv) ∧ w''.cell? ⟨w.heap.size, 9, none⟩ = some (.int .i64 h.dO) ∧ w''.cell? ⟨w.heap.size, 10, none⟩ = some (.int .i64 h.ld) ∧ w''.cell? ⟨w.heap.size, 11, none⟩ = some (.int .i64 h.qu) ∧ w''.cell? ⟨(w.heap.size + 1), 0, none⟩ = some (.int .i64 x.l.lo) ∧ w''.cell? ⟨(w.heap.size + 1), 1, none⟩ = some (.int .i64 x.l.hi) ∧ w''.cell? ⟨(w.heap.size + 1), 2, none⟩ = some (.int .i64 x.u.lo) ∧ w''.cell? ⟨(w.heap.size + 1), 3, none⟩ = some (.int .i64 x.u.hi) ∧ w''.cell? ⟨(w.heap.size + 2), 0, none⟩ = some (.int .i64 s.lo.pos) ∧ w''.cell? ⟨(w.heap.size + 2), 1, none⟩ = some (.int .i64 s.lo.vel) ∧ w''.cell? ⟨(w.heap.size + 2), 2, none⟩ = some (.int .i64 s.lo.door) ∧ w''.cell? ⟨(w.heap.size + 2), 3, none⟩ = some (.int .i64 s.up.pos) ∧ w''.cell? ⟨(w.heap.size + 2), 4, none⟩ = some (.int .i64 s.up.vel) ∧ w''.cell? ⟨(w.heap.size + 2), 5, none⟩ = some (.int .i64 s.up.door))) (by kernel_rfl) (by (try dsimp only); first | exact ⟨x0_0, x0_1, x0_2, x0_3, x0_4, x0_5, x0_6, x0_7, x0_8, x0_9, x0_10, x0_11, x1_0, x1_1, x1_2, x1_3, x2_0, x2_1, x2_2, x2_3, x2_4, x2_5⟩ | go_keep) (fun hHeld => ?_)
      obtain ⟨v_1, hw1⟩ : ∃ v_1, v_1 = w4.drew := ⟨_, rfl⟩
      replace F0 : Hid (HAt v_1 w.heap.size h) := by rw [hw1]; exact F0.out
      replace F1 : Hid (NW v_1 (w.heap.size + 1) x) := by rw [hw1]; exact F1.out
      replace F2 : Hid (SW v_1 (w.heap.size + 2) s) := by rw [hw1]; exact F2.out
      replace F3 : Hid (RSps v_1 (w.heap.size + 3)) := by rw [hw1]; exact F3.out
      replace FB : Hid (Below w.heap.size w v_1) := by rw [hw1]; exact FB.out
      replace FM : Hid (Held v_1 mb nn (upS x (x.u.hi + 1))) := by rw [hw1]; exact FM.out
      rw [← hw1] at hHeld ⊢
      clear hw1
      clear x0_0 x0_1 x0_2 x0_3 x0_4 x0_5 x0_6 x0_7 x0_8 x0_9 x0_10 x0_11 x1_0 x1_1 x1_2 x1_3 x2_0 x2_1 x2_2 x2_3 x2_4 x2_5
      obtain ⟨x0_0, x0_1, x0_2, x0_3, x0_4, x0_5, x0_6, x0_7, x0_8, x0_9, x0_10, x0_11⟩ := F0.out
      obtain ⟨x1_0, x1_1, x1_2, x1_3, y1_0, y1_1, y1_2, y1_3⟩ := F1.out
      obtain ⟨x2_0, x2_1, x2_2, x2_3, x2_4, x2_5, y2_0, y2_1, y2_2, y2_3, y2_4, y2_5⟩ := F2.out
      refine tkz 0 rfl ?_
      refine tkz 1 rfl ?_
      refine tkz 2 rfl ?_
      refine tkz 3 rfl ?_
      refine tkz 5 rfl ?_
      refine tkz 6 rfl ?_
      refine tkz 7 rfl ?_
      refine wpAnyH_ready (rs := [4]) (by kernel_rfl) (by simp) ?_
      refine (AllReadyH.cons rfl (fun K hK => ?_) AllReadyH.nil)
      go_simp
      refine (coverOf_any h s.lo HL.out g1 HG1.out _).mono ?_
      rintro e v_2 ⟨rfl, hb⟩
      replace F0 : Hid (HAt v_2 w.heap.size h) := F0.out.below hb F0.out.lt
      replace F1 : Hid (NW v_2 (w.heap.size + 1) x) := F1.out.below hb F1.out.lt
      replace F2 : Hid (SW v_2 (w.heap.size + 2) s) := F2.out.below hb F2.out.lt
      replace F3 : Hid (RSps v_2 (w.heap.size + 3)) := F3.out.below hb F3.out.lt
      replace FB : Hid (Below w.heap.size w v_2) := FB.out.trans (hb.mono FB.out.size)
      replace FM : Hid (Held v_2 mb nn (upS x (x.u.hi + 1))) := FM.out.below hb FM.out.lt
      clear hb
      clear x0_0 x0_1 x0_2 x0_3 x0_4 x0_5 x0_6 x0_7 x0_8 x0_9 x0_10 x0_11 x1_0 x1_1 x1_2 x1_3 x2_0 x2_1 x2_2 x2_3 x2_4 x2_5
      obtain ⟨x0_0, x0_1, x0_2, x0_3, x0_4, x0_5, x0_6, x0_7, x0_8, x0_9, x0_10, x0_11⟩ := F0.out
      obtain ⟨x1_0, x1_1, x1_2, x1_3, y1_0, y1_1, y1_2, y1_3⟩ := F1.out
      obtain ⟨x2_0, x2_1, x2_2, x2_3, x2_4, x2_5, y2_0, y2_1, y2_2, y2_3, y2_4, y2_5⟩ := F2.out
      try dsimp only
      refine hK.out _ _ (by (try dsimp only); first | exact ⟨x0_0, x0_1, x0_2, x0_3, x0_4, x0_5, x0_6, x0_7, x0_8, x0_9, x0_10, x0_11, x1_0, x1_1, x1_2, x1_3, x2_0, x2_1, x2_2, x2_3, x2_4, x2_5⟩ | go_keep) (fun hHeld => ?_)
      clear hK K
      try simp only [Act.put, List.getElem_toArray, List.getElem_cons_succ, List.getElem_cons_zero, List.setIfInBounds_toArray, List.set_cons_zero, List.set_cons_succ]
      refine wpAnyH_ready (rs := [8]) (by kernel_rfl) (by simp) ?_
      refine (AllReadyH.cons rfl (fun K hK => ?_) AllReadyH.nil)
      go_simp
      refine (coverOf_any h s.up HU.out g2 HG2.out _).mono ?_
      rintro e v_3 ⟨rfl, hb⟩
      replace F0 : Hid (HAt v_3 w.heap.size h) := F0.out.below hb F0.out.lt
      replace F1 : Hid (NW v_3 (w.heap.size + 1) x) := F1.out.below hb F1.out.lt
      replace F2 : Hid (SW v_3 (w.heap.size + 2) s) := F2.out.below hb F2.out.lt
      replace F3 : Hid (RSps v_3 (w.heap.size + 3)) := F3.out.below hb F3.out.lt
      replace FB : Hid (Below w.heap.size w v_3) := FB.out.trans (hb.mono FB.out.size)
      replace FM : Hid (Held v_3 mb nn (upS x (x.u.hi + 1))) := FM.out.below hb FM.out.lt
      clear hb
      clear x0_0 x0_1 x0_2 x0_3 x0_4 x0_5 x0_6 x0_7 x0_8 x0_9 x0_10 x0_11 x1_0 x1_1 x1_2 x1_3 x2_0 x2_1 x2_2 x2_3 x2_4 x2_5
      obtain ⟨x0_0, x0_1, x0_2, x0_3, x0_4, x0_5, x0_6, x0_7, x0_8, x0_9, x0_10, x0_11⟩ := F0.out
      obtain ⟨x1_0, x1_1, x1_2, x1_3, y1_0, y1_1, y1_2, y1_3⟩ := F1.out
      obtain ⟨x2_0, x2_1, x2_2, x2_3, x2_4, x2_5, y2_0, y2_1, y2_2, y2_3, y2_4, y2_5⟩ := F2.out
      try dsimp only
      refine hK.out _ _ (by (try dsimp only); first | exact ⟨x0_0, x0_1, x0_2, x0_3, x0_4, x0_5, x0_6, x0_7, x0_8, x0_9, x0_10, x0_11, x1_0, x1_1, x1_2, x1_3, x2_0, x2_1, x2_2, x2_3, x2_4, x2_5⟩ | go_keep) (fun hHeld => ?_)
      clear hK K
      try simp only [Act.put, List.getElem_toArray, List.getElem_cons_succ, List.getElem_cons_zero, List.setIfInBounds_toArray, List.set_cons_zero, List.set_cons_succ]
      refine tkz 9 rfl ?_
      refine wpAnyH_ready (rs := [10]) (by kernel_rfl) (by simp) ?_
      refine (AllReadyH.cons rfl (fun K hK => ?_) AllReadyH.nil)
      go_simp
      refine (giveBack_below mb nn (w.heap.size + 4) (upS x (x.u.hi + 1)) (⟨g1, g2⟩ : Ss) HS.out HC.out (by omega) _ FM.out).mono ?_
      rintro e v_4 ⟨rfl, hm, hb⟩
      replace F0 : Hid (HAt v_4 w.heap.size h) := F0.out.below hb (by omega)
      replace F1 : Hid (NW v_4 (w.heap.size + 1) x) := F1.out.below hb (by omega)
      replace F2 : Hid (SW v_4 (w.heap.size + 2) s) := F2.out.below hb (by omega)
      replace F3 : Hid (RSps v_4 (w.heap.size + 3)) := F3.out.below hb (by omega)
      replace FB : Hid (Below w.heap.size w v_4) := FB.out.trans (hb.mono (by omega))
      replace FM : Hid (Held v_4 mb nn (cutM (upS x (x.u.hi + 1)) (⟨g1, g2⟩ : Ss))) := hm
      clear hb hm
      clear x0_0 x0_1 x0_2 x0_3 x0_4 x0_5 x0_6 x0_7 x0_8 x0_9 x0_10 x0_11 x1_0 x1_1 x1_2 x1_3 x2_0 x2_1 x2_2 x2_3 x2_4 x2_5
      obtain ⟨x0_0, x0_1, x0_2, x0_3, x0_4, x0_5, x0_6, x0_7, x0_8, x0_9, x0_10, x0_11⟩ := F0.out
      obtain ⟨x1_0, x1_1, x1_2, x1_3, y1_0, y1_1, y1_2, y1_3⟩ := F1.out
      obtain ⟨x2_0, x2_1, x2_2, x2_3, x2_4, x2_5, y2_0, y2_1, y2_2, y2_3, y2_4, y2_5⟩ := F2.out
      try dsimp only
      refine hK.out _ _ (by (try dsimp only); first | exact ⟨x0_0, x0_1, x0_2, x0_3, x0_4, x0_5, x0_6, x0_7, x0_8, x0_9, x0_10, x0_11, x1_0, x1_1, x1_2, x1_3, x2_0, x2_1, x2_2, x2_3, x2_4, x2_5⟩ | go_keep) (fun hHeld => ?_)
      clear hK K
      try simp only [Act.put, List.getElem_toArray, List.getElem_cons_succ, List.getElem_cons_zero, List.setIfInBounds_toArray, List.set_cons_zero, List.set_cons_succ]
      refine wpAnyH_done (by kernel_rfl) ?_ _
      go_upto_region 6 with fail
      obtain ⟨w5, hw5⟩ : ∃ w5, w5 = v_4 := ⟨_, rfl⟩
      have F0 : Hid (HAt w5 w.heap.size h) := by rw [hw5]; exact F0.out
      have F1 : Hid (NW w5 (w.heap.size + 1) x) := by rw [hw5]; exact F1.out
      have F2 : Hid (SW w5 (w.heap.size + 2) s) := by rw [hw5]; exact F2.out
      have F3 : Hid (RSps w5 (w.heap.size + 3)) := by rw [hw5]; exact F3.out
      have FB : Hid (Below w.heap.size w w5) := by rw [hw5]; exact FB.out
      have FM : Hid (Held w5 mb nn (cutM (upS x (x.u.hi + 1)) (⟨g1, g2⟩ : Ss))) := by rw [hw5]; exact FM.out
      rw [← hw5]
      clear hw5
      replace F0 : Hid (HAt w5.drew w.heap.size h) := F0.out.below (Below.refl _ _).drew F0.out.lt
      replace F1 : Hid (NW w5.drew (w.heap.size + 1) x) := F1.out.below (Below.refl _ _).drew F1.out.lt
      replace F2 : Hid (SW w5.drew (w.heap.size + 2) s) := F2.out.below (Below.refl _ _).drew F2.out.lt
      replace F3 : Hid (RSps w5.drew (w.heap.size + 3)) := F3.out.below (Below.refl _ _).drew F3.out.lt
      replace FB : Hid (Below w.heap.size w w5.drew) := FB.out.drew
      replace FM : Hid (Held w5.drew mb nn (cutM (upS x (x.u.hi + 1)) (⟨g1, g2⟩ : Ss))) := FM.out.drew
      obtain ⟨x0_0, x0_1, x0_2, x0_3, x0_4, x0_5, x0_6, x0_7, x0_8, x0_9, x0_10, x0_11⟩ := F0.out
      obtain ⟨x1_0, x1_1, x1_2, x1_3, y1_0, y1_1, y1_2, y1_3⟩ := F1.out
      obtain ⟨x2_0, x2_1, x2_2, x2_3, x2_4, x2_5, y2_0, y2_1, y2_2, y2_3, y2_4, y2_5⟩ := F2.out
      refine wp_region_held_drew (S := (fun w'' => w''.cell? ⟨w.heap.size, 0, none⟩ = some (.int .i64 h.fl) ∧ w''.cell? ⟨w.heap.size, 1, none⟩ = some (.int .i64 h.gp) ∧ w''.cell? ⟨w.heap.size, 2, none⟩ = some (.int .i64 h.ln) ∧ w''.cell? ⟨w.heap.size, 3, none⟩ = some (.int .i64 h.rf) ∧ w''.cell? ⟨w.heap.size, 4, none⟩ = some (.int .i64 h.sp) ∧ w''.cell? ⟨w.heap.size, 5, none⟩ = some (.int .i64 h.pu) ∧ w''.cell? ⟨w.heap.size, 6, none⟩ = some (.int .i64 h.br) ∧ w''.cell? ⟨w.heap.size, 7, none⟩ = some (.int .i64 h.dr) ∧ w''.cell? ⟨w.heap.size, 8, none⟩ = some (.int .i64 h.lv) ∧ w''.cell? ⟨w.heap.size, 9, none⟩ = some (.int .i64 h.dO) ∧ w''.cell? ⟨w.heap.size, 10, none⟩ = some (.int .i64 h.ld) ∧ w''.cell? ⟨w.heap.size, 11, none⟩ = some (.int .i64 h.qu) ∧ w''.cell? ⟨(w.heap.size + 1), 0, none⟩ = some (.int .i64 x.l.lo) ∧ w''.cell? ⟨(w.heap.size + 1), 1, none⟩ = some (.int .i64 x.l.hi) ∧ w''.cell? ⟨(w.heap.size + 1), 2, none⟩ = some (.int .i64 x.u.lo) ∧ w''.cell? ⟨(w.heap.size + 1), 3, none⟩ = some (.int .i64 x.u.hi) ∧ w''.cell? ⟨(w.heap.size + 2), 0, none⟩ = some (.int .i64 s.lo.pos) ∧ w''.cell? ⟨(w.heap.size + 2), 1, none⟩ = some (.int .i64 s.lo.vel) ∧ w''.cell? ⟨(w.heap.size + 2), 2, none⟩ = some (.int .i64 s.lo.door) ∧ w''.cell? ⟨(w.heap.size + 2), 3, none⟩ = some (.int .i64 s.up.pos) ∧ w''.cell? ⟨(w.heap.size + 2), 4, none⟩ = some (.int .i64 s.up.vel) ∧ w''.cell? ⟨(w.heap.size + 2), 5, none⟩ = some (.int .i64 s.up.door))) (by kernel_rfl) (by (try dsimp only); first | exact ⟨x0_0, x0_1, x0_2, x0_3, x0_4, x0_5, x0_6, x0_7, x0_8, x0_9, x0_10, x0_11, x1_0, x1_1, x1_2, x1_3, x2_0, x2_1, x2_2, x2_3, x2_4, x2_5⟩ | go_keep) (fun hHeld => ?_)
      obtain ⟨v_5, hw1⟩ : ∃ v_5, v_5 = w5.drew := ⟨_, rfl⟩
      replace F0 : Hid (HAt v_5 w.heap.size h) := by rw [hw1]; exact F0.out
      replace F1 : Hid (NW v_5 (w.heap.size + 1) x) := by rw [hw1]; exact F1.out
      replace F2 : Hid (SW v_5 (w.heap.size + 2) s) := by rw [hw1]; exact F2.out
      replace F3 : Hid (RSps v_5 (w.heap.size + 3)) := by rw [hw1]; exact F3.out
      replace FB : Hid (Below w.heap.size w v_5) := by rw [hw1]; exact FB.out
      replace FM : Hid (Held v_5 mb nn (cutM (upS x (x.u.hi + 1)) (⟨g1, g2⟩ : Ss))) := by rw [hw1]; exact FM.out
      rw [← hw1] at hHeld ⊢
      clear hw1
      clear x0_0 x0_1 x0_2 x0_3 x0_4 x0_5 x0_6 x0_7 x0_8 x0_9 x0_10 x0_11 x1_0 x1_1 x1_2 x1_3 x2_0 x2_1 x2_2 x2_3 x2_4 x2_5
      obtain ⟨x0_0, x0_1, x0_2, x0_3, x0_4, x0_5, x0_6, x0_7, x0_8, x0_9, x0_10, x0_11⟩ := F0.out
      obtain ⟨x1_0, x1_1, x1_2, x1_3, y1_0, y1_1, y1_2, y1_3⟩ := F1.out
      obtain ⟨x2_0, x2_1, x2_2, x2_3, x2_4, x2_5, y2_0, y2_1, y2_2, y2_3, y2_4, y2_5⟩ := F2.out
      refine tkz 0 rfl ?_
      refine tkz 1 rfl ?_
      refine tkz 2 rfl ?_
      refine tkz 4 rfl ?_
      refine tkz 5 rfl ?_
      refine tkz 6 rfl ?_
      refine wpAnyH_ready (rs := [3]) (by kernel_rfl) (by simp) ?_
      refine (AllReadyH.cons rfl (fun K hK => ?_) AllReadyH.nil)
      go_simp
      refine (leftTo_any mb nn (cutM (upS x (x.u.hi + 1)) (⟨g1, g2⟩ : Ss)) 0 x.l HSC.out _ FM.out).mono ?_
      rintro e v_6 ⟨k1, lf1, hk1, hz1, rfl, hb⟩
      replace F0 : Hid (HAt v_6 w.heap.size h) := F0.out.below hb F0.out.lt
      replace F1 : Hid (NW v_6 (w.heap.size + 1) x) := F1.out.below hb F1.out.lt
      replace F2 : Hid (SW v_6 (w.heap.size + 2) s) := F2.out.below hb F2.out.lt
      replace F3 : Hid (RSps v_6 (w.heap.size + 3)) := F3.out.below hb F3.out.lt
      replace FB : Hid (Below w.heap.size w v_6) := FB.out.trans (hb.mono FB.out.size)
      replace FM : Hid (Held v_6 mb nn (cutM (upS x (x.u.hi + 1)) (⟨g1, g2⟩ : Ss))) := FM.out.below hb FM.out.lt
      clear hb
      clear x0_0 x0_1 x0_2 x0_3 x0_4 x0_5 x0_6 x0_7 x0_8 x0_9 x0_10 x0_11 x1_0 x1_1 x1_2 x1_3 x2_0 x2_1 x2_2 x2_3 x2_4 x2_5
      obtain ⟨x0_0, x0_1, x0_2, x0_3, x0_4, x0_5, x0_6, x0_7, x0_8, x0_9, x0_10, x0_11⟩ := F0.out
      obtain ⟨x1_0, x1_1, x1_2, x1_3, y1_0, y1_1, y1_2, y1_3⟩ := F1.out
      obtain ⟨x2_0, x2_1, x2_2, x2_3, x2_4, x2_5, y2_0, y2_1, y2_2, y2_3, y2_4, y2_5⟩ := F2.out
      have HK1 : Hid (keptS x.l k1 = y.l) := by rw [← HY1.out]; exact kept_cut hk1 hz1 HX.out.1 (cut_lo HX.out.2.1 _)
      clear hk1 hz1
      try dsimp only
      refine hK.out _ _ (by (try dsimp only); first | exact ⟨x0_0, x0_1, x0_2, x0_3, x0_4, x0_5, x0_6, x0_7, x0_8, x0_9, x0_10, x0_11, x1_0, x1_1, x1_2, x1_3, x2_0, x2_1, x2_2, x2_3, x2_4, x2_5⟩ | go_keep) (fun hHeld => ?_)
      clear hK K
      try simp only [Act.put, List.getElem_toArray, List.getElem_cons_succ, List.getElem_cons_zero, List.setIfInBounds_toArray, List.set_cons_zero, List.set_cons_succ]
      refine wpAnyH_ready (rs := [7]) (by kernel_rfl) (by simp) ?_
      refine (AllReadyH.cons rfl (fun K hK => ?_) AllReadyH.nil)
      go_simp
      refine (leftTo_any mb nn (cutM (upS x (x.u.hi + 1)) (⟨g1, g2⟩ : Ss)) 1 x.u HSC.out _ FM.out).mono ?_
      rintro e v_7 ⟨k2, lf2, hk2, hz2, rfl, hb⟩
      replace F0 : Hid (HAt v_7 w.heap.size h) := F0.out.below hb F0.out.lt
      replace F1 : Hid (NW v_7 (w.heap.size + 1) x) := F1.out.below hb F1.out.lt
      replace F2 : Hid (SW v_7 (w.heap.size + 2) s) := F2.out.below hb F2.out.lt
      replace F3 : Hid (RSps v_7 (w.heap.size + 3)) := F3.out.below hb F3.out.lt
      replace FB : Hid (Below w.heap.size w v_7) := FB.out.trans (hb.mono FB.out.size)
      replace FM : Hid (Held v_7 mb nn (cutM (upS x (x.u.hi + 1)) (⟨g1, g2⟩ : Ss))) := FM.out.below hb FM.out.lt
      clear hb
      clear x0_0 x0_1 x0_2 x0_3 x0_4 x0_5 x0_6 x0_7 x0_8 x0_9 x0_10 x0_11 x1_0 x1_1 x1_2 x1_3 x2_0 x2_1 x2_2 x2_3 x2_4 x2_5
      obtain ⟨x0_0, x0_1, x0_2, x0_3, x0_4, x0_5, x0_6, x0_7, x0_8, x0_9, x0_10, x0_11⟩ := F0.out
      obtain ⟨x1_0, x1_1, x1_2, x1_3, y1_0, y1_1, y1_2, y1_3⟩ := F1.out
      obtain ⟨x2_0, x2_1, x2_2, x2_3, x2_4, x2_5, y2_0, y2_1, y2_2, y2_3, y2_4, y2_5⟩ := F2.out
      have HK2 : Hid (keptS x.u k2 = y.u) := by rw [← HY2.out]; exact kept_cut hk2 hz2 HX.out.2.2 (cut_up HX.out.2.1)
      clear hk2 hz2
      try dsimp only
      refine hK.out _ _ (by (try dsimp only); first | exact ⟨x0_0, x0_1, x0_2, x0_3, x0_4, x0_5, x0_6, x0_7, x0_8, x0_9, x0_10, x0_11, x1_0, x1_1, x1_2, x1_3, x2_0, x2_1, x2_2, x2_3, x2_4, x2_5⟩ | go_keep) (fun hHeld => ?_)
      clear hK K
      try simp only [Act.put, List.getElem_toArray, List.getElem_cons_succ, List.getElem_cons_zero, List.setIfInBounds_toArray, List.set_cons_zero, List.set_cons_succ]
      refine tkz 8 rfl ?_
      refine tkz 9 rfl ?_
      refine wpAnyH_ready (rs := [10]) (by kernel_rfl) (by simp) ?_
      refine (AllReadyH.cons rfl (fun K hK => ?_) AllReadyH.nil)
      obtain ⟨x3_0, x3_1, x3_2, x3_3, x3_4, y3_0, y3_1, y3_2, y3_3, y3_4⟩ := F3.out
      go_simp
      obtain ⟨v_8, hw2⟩ : ∃ v_8, v_8 = putSps v_7 (w.heap.size + 3) 0 (⟨keptS x.l k1, keptS x.u k2⟩ : Ss) := ⟨_, rfl⟩
      change K _ (putSps v_7 (w.heap.size + 3) 0 (⟨keptS x.l k1, keptS x.u k2⟩ : Ss))
      rw [← hw2]
      clear x3_0 x3_1 x3_2 x3_3 x3_4 y3_0 y3_1 y3_2 y3_3 y3_4
      replace F0 : Hid (HAt v_8 w.heap.size h) := by rw [hw2]; exact F0.out.below (below_putSps (Below.refl _ _) (Nat.le_refl _) 0 _) (by omega)
      replace F1 : Hid (NW v_8 (w.heap.size + 1) x) := by rw [hw2]; exact F1.out.below (below_putSps (Below.refl _ _) (Nat.le_refl _) 0 _) (by omega)
      replace F2 : Hid (SW v_8 (w.heap.size + 2) s) := by rw [hw2]; exact F2.out.below (below_putSps (Below.refl _ _) (Nat.le_refl _) 0 _) (by omega)
      replace F3 : Hid (VSps v_8 (w.heap.size + 3) 0 (⟨keptS x.l k1, keptS x.u k2⟩ : Ss)) := by rw [hw2]; exact F3.out.put 0 _
      replace FB : Hid (Below w.heap.size w v_8) := by rw [hw2]; exact below_putSps FB.out (by omega) 0 _
      clear hw2
      clear x0_0 x0_1 x0_2 x0_3 x0_4 x0_5 x0_6 x0_7 x0_8 x0_9 x0_10 x0_11 x1_0 x1_1 x1_2 x1_3 x2_0 x2_1 x2_2 x2_3 x2_4 x2_5
      obtain ⟨x0_0, x0_1, x0_2, x0_3, x0_4, x0_5, x0_6, x0_7, x0_8, x0_9, x0_10, x0_11⟩ := F0.out
      obtain ⟨x1_0, x1_1, x1_2, x1_3, y1_0, y1_1, y1_2, y1_3⟩ := F1.out
      obtain ⟨x2_0, x2_1, x2_2, x2_3, x2_4, x2_5, y2_0, y2_1, y2_2, y2_3, y2_4, y2_5⟩ := F2.out
      refine hK.out _ _ (by (try dsimp only); first | exact ⟨x0_0, x0_1, x0_2, x0_3, x0_4, x0_5, x0_6, x0_7, x0_8, x0_9, x0_10, x0_11, x1_0, x1_1, x1_2, x1_3, x2_0, x2_1, x2_2, x2_3, x2_4, x2_5⟩ | go_keep) (fun hHeld => ?_)
      clear hK K
      try simp only [Act.put, List.getElem_toArray, List.getElem_cons_succ, List.getElem_cons_zero, List.setIfInBounds_toArray, List.set_cons_zero, List.set_cons_succ]
      refine wpAnyH_done (by kernel_rfl) ?_ _
      obtain ⟨x3_0, x3_1, x3_2, x3_3, x3_4⟩ := F3.out
      try dsimp only at x3_0 x3_1 x3_2 x3_3 x3_4
      go_wp2_with fail
      exact bodyPost_ret (v := .agg #[.int .i64 0, .int .i64 (keptS x.l k1).lo, .int .i64 (keptS x.l k1).hi, .int .i64 (keptS x.u k2).lo, .int .i64 (keptS x.u k2).hi]) (by simp [results, Try.results13, go_sem, x3_0, x3_1, x3_2, x3_3, x3_4]) rfl ⟨by rw [HK1.out, HK2.out], FB.out⟩
    · have q2 : Hs.relV h x s = ⟨⟨0, 0⟩, ⟨0, 0⟩⟩ := by unfold Hs.relV; rw [q0, if_neg hs]
      rw [q0, q2]
      have hn : (h.shaft s != 0) = true := by simpa using hs
      clear q0 q2 hs
      go_enter Try.func13, Try.ntmps13
      go_wp2_with fail
      refine wp_region_held_drew (S := (fun w'' => w''.cell? ⟨w.heap.size, 0, none⟩ = some (.int .i64 h.fl) ∧ w''.cell? ⟨w.heap.size, 1, none⟩ = some (.int .i64 h.gp) ∧ w''.cell? ⟨w.heap.size, 2, none⟩ = some (.int .i64 h.ln) ∧ w''.cell? ⟨w.heap.size, 3, none⟩ = some (.int .i64 h.rf) ∧ w''.cell? ⟨w.heap.size, 4, none⟩ = some (.int .i64 h.sp) ∧ w''.cell? ⟨w.heap.size, 5, none⟩ = some (.int .i64 h.pu) ∧ w''.cell? ⟨w.heap.size, 6, none⟩ = some (.int .i64 h.br) ∧ w''.cell? ⟨w.heap.size, 7, none⟩ = some (.int .i64 h.dr) ∧ w''.cell? ⟨w.heap.size, 8, none⟩ = some (.int .i64 h.lv) ∧ w''.cell? ⟨w.heap.size, 9, none⟩ = some (.int .i64 h.dO) ∧ w''.cell? ⟨w.heap.size, 10, none⟩ = some (.int .i64 h.ld) ∧ w''.cell? ⟨w.heap.size, 11, none⟩ = some (.int .i64 h.qu) ∧ w''.cell? ⟨(w.heap.size + 1), 0, none⟩ = some (.int .i64 x.l.lo) ∧ w''.cell? ⟨(w.heap.size + 1), 1, none⟩ = some (.int .i64 x.l.hi) ∧ w''.cell? ⟨(w.heap.size + 1), 2, none⟩ = some (.int .i64 x.u.lo) ∧ w''.cell? ⟨(w.heap.size + 1), 3, none⟩ = some (.int .i64 x.u.hi) ∧ w''.cell? ⟨(w.heap.size + 2), 0, none⟩ = some (.int .i64 s.lo.pos) ∧ w''.cell? ⟨(w.heap.size + 2), 1, none⟩ = some (.int .i64 s.lo.vel) ∧ w''.cell? ⟨(w.heap.size + 2), 2, none⟩ = some (.int .i64 s.lo.door) ∧ w''.cell? ⟨(w.heap.size + 2), 3, none⟩ = some (.int .i64 s.up.pos) ∧ w''.cell? ⟨(w.heap.size + 2), 4, none⟩ = some (.int .i64 s.up.vel) ∧ w''.cell? ⟨(w.heap.size + 2), 5, none⟩ = some (.int .i64 s.up.door) ∧ w''.cell? ⟨(w.heap.size + 3), 0, none⟩ = some (.int .i64 0) ∧ w''.cell? ⟨(w.heap.size + 3), 1, none⟩ = some (.int .i64 0) ∧ w''.cell? ⟨(w.heap.size + 3), 2, none⟩ = some (.int .i64 0) ∧ w''.cell? ⟨(w.heap.size + 3), 3, none⟩ = some (.int .i64 0) ∧ w''.cell? ⟨(w.heap.size + 3), 4, none⟩ = some (.int .i64 0))) (by kernel_rfl) (by (try dsimp only); first | exact ⟨x0_0, x0_1, x0_2, x0_3, x0_4, x0_5, x0_6, x0_7, x0_8, x0_9, x0_10, x0_11, x1_0, x1_1, x1_2, x1_3, x2_0, x2_1, x2_2, x2_3, x2_4, x2_5, x3_0, x3_1, x3_2, x3_3, x3_4⟩ | go_keep) (fun hHeld => ?_)
      refine tkz 0 rfl ?_
      refine tkz 1 rfl ?_
      refine tkz 3 rfl ?_
      refine tkz 4 rfl ?_
      refine wpAnyH_ready (rs := [2]) (by kernel_rfl) (by simp) ?_
      refine AllReadyH.cons rfl (fun K hK => ?_) AllReadyH.nil
      go_simp
      refine (implSpansFault_any h x _).mono ?_
      rw [hf]
      rintro e w1 ⟨rfl, hb⟩
      have F0 : Hid (HAt w1 w.heap.size h) := F0.out.below hb F0.out.lt
      have F1 : Hid (NW w1 (w.heap.size + 1) x) := F1.out.below hb F1.out.lt
      have F2 : Hid (SW w1 (w.heap.size + 2) s) := F2.out.below hb F2.out.lt
      have F3 : Hid (RSps w1 (w.heap.size + 3)) := F3.out.below hb F3.out.lt
      have FB : Hid (Below w.heap.size w w1) := FB.out.trans (hb.mono FB.out.size)
      obtain ⟨x0_0, x0_1, x0_2, x0_3, x0_4, x0_5, x0_6, x0_7, x0_8, x0_9, x0_10, x0_11⟩ := F0.out
      obtain ⟨x1_0, x1_1, x1_2, x1_3, y1_0, y1_1, y1_2, y1_3⟩ := F1.out
      obtain ⟨x2_0, x2_1, x2_2, x2_3, x2_4, x2_5, y2_0, y2_1, y2_2, y2_3, y2_4, y2_5⟩ := F2.out
      obtain ⟨x3_0, x3_1, x3_2, x3_3, x3_4, y3_0, y3_1, y3_2, y3_3, y3_4⟩ := F3.out
      clear hb
      try go_wp2_with fail
      refine hK.out _ _ (by (try dsimp only); go_keep) (fun hHeld => ?_)
      clear hK K
      try simp only [Act.put, List.getElem_toArray, List.getElem_cons_succ, List.getElem_cons_zero, List.setIfInBounds_toArray, List.set_cons_zero, List.set_cons_succ]
      refine wpAnyH_ready (rs := [5]) (by kernel_rfl) (by simp) ?_
      refine AllReadyH.cons rfl (fun K hK => ?_) AllReadyH.nil
      go_simp
      refine (implShaftFault_any h s _).mono ?_
      rintro e w2 ⟨rfl, hb⟩
      have F0 : Hid (HAt w2 w.heap.size h) := F0.out.below hb F0.out.lt
      have F1 : Hid (NW w2 (w.heap.size + 1) x) := F1.out.below hb F1.out.lt
      have F2 : Hid (SW w2 (w.heap.size + 2) s) := F2.out.below hb F2.out.lt
      have F3 : Hid (RSps w2 (w.heap.size + 3)) := F3.out.below hb F3.out.lt
      have FB : Hid (Below w.heap.size w w2) := FB.out.trans (hb.mono FB.out.size)
      obtain ⟨x0_0, x0_1, x0_2, x0_3, x0_4, x0_5, x0_6, x0_7, x0_8, x0_9, x0_10, x0_11⟩ := F0.out
      obtain ⟨x1_0, x1_1, x1_2, x1_3, y1_0, y1_1, y1_2, y1_3⟩ := F1.out
      obtain ⟨x2_0, x2_1, x2_2, x2_3, x2_4, x2_5, y2_0, y2_1, y2_2, y2_3, y2_4, y2_5⟩ := F2.out
      obtain ⟨x3_0, x3_1, x3_2, x3_3, x3_4, y3_0, y3_1, y3_2, y3_3, y3_4⟩ := F3.out
      clear hb
      try go_wp2_with fail
      refine hK.out _ _ (by (try dsimp only); go_keep) (fun hHeld => ?_)
      clear hK K
      try simp only [Act.put, List.getElem_toArray, List.getElem_cons_succ, List.getElem_cons_zero, List.setIfInBounds_toArray, List.set_cons_zero, List.set_cons_succ]
      refine wpAnyH_ready (rs := [6]) (by kernel_rfl) (by simp) ?_
      refine AllReadyH.cons rfl (fun K hK => ?_) AllReadyH.nil
      go_simp
      have F0 : Hid (HAt (w2.alloc (.cells #[.int .i64 0, .int .i64 (h.shaft s)] 2)) w.heap.size h) := F0.out.alloc _
      have F1 : Hid (NW (w2.alloc (.cells #[.int .i64 0, .int .i64 (h.shaft s)] 2)) (w.heap.size + 1) x) := F1.out.alloc _
      have F2 : Hid (SW (w2.alloc (.cells #[.int .i64 0, .int .i64 (h.shaft s)] 2)) (w.heap.size + 2) s) := F2.out.alloc _
      have F3 : Hid (RSps (w2.alloc (.cells #[.int .i64 0, .int .i64 (h.shaft s)] 2)) (w.heap.size + 3)) := F3.out.alloc _
      have FB : Hid (Below w.heap.size w (w2.alloc (.cells #[.int .i64 0, .int .i64 (h.shaft s)] 2))) := FB.out.alloc FB.out.size _
      obtain ⟨x0_0, x0_1, x0_2, x0_3, x0_4, x0_5, x0_6, x0_7, x0_8, x0_9, x0_10, x0_11⟩ := F0.out
      obtain ⟨x1_0, x1_1, x1_2, x1_3, y1_0, y1_1, y1_2, y1_3⟩ := F1.out
      obtain ⟨x2_0, x2_1, x2_2, x2_3, x2_4, x2_5, y2_0, y2_1, y2_2, y2_3, y2_4, y2_5⟩ := F2.out
      obtain ⟨x3_0, x3_1, x3_2, x3_3, x3_4, y3_0, y3_1, y3_2, y3_3, y3_4⟩ := F3.out
      refine hK.out _ _ (by (try dsimp only); go_keep) (fun hHeld => ?_)
      clear hK K
      try simp only [Act.put, List.getElem_toArray, List.getElem_cons_succ, List.getElem_cons_zero, List.setIfInBounds_toArray, List.set_cons_zero, List.set_cons_succ]
      refine wpAnyH_ready (rs := [7]) (by kernel_rfl) (by simp) ?_
      refine AllReadyH.cons rfl (fun K hK => ?_) AllReadyH.nil
      go_simp
      refine (or_second 0 (h.shaft s) rfl _ _ (by simp) (by simp)).mono ?_
      rintro e w' ⟨rfl, hw⟩
      obtain rfl := hw.symm
      clear hw
      try go_wp2_with fail
      refine hK.out _ _ (by (try dsimp only); go_keep) (fun hHeld => ?_)
      clear hK K
      try simp only [Act.put, List.getElem_toArray, List.getElem_cons_succ, List.getElem_cons_zero, List.setIfInBounds_toArray, List.set_cons_zero, List.set_cons_succ]
      refine tkz 8 rfl ?_
      refine wpAnyH_done (by kernel_rfl) ?_ _
      go_wp2_with fail
      exact bodyPost_ret (v := .agg #[.int .i64 (h.shaft s), .int .i64 0, .int .i64 0, .int .i64 0, .int .i64 0]) (by simp [results, Try.results13, go_sem, x3_0, x3_1, x3_2, x3_3, x3_4]) rfl ⟨rfl, by repeat (first | exact FB.out | (refine Below.setCell ?_ (by simp <;> omega) _))⟩
  · have q0 : Hs.relK h x s = Hs.spans h x := by unfold Hs.relK; rw [if_neg hf]
    have q2 : Hs.relV h x s = ⟨⟨0, 0⟩, ⟨0, 0⟩⟩ := by unfold Hs.relV; rw [q0, if_neg hf]
    rw [q0, q2]
    have hn : (Hs.spans h x != 0) = true := by simpa using hf
    clear q0 q2
    go_enter Try.func13, Try.ntmps13
    go_wp2_with fail
    refine wp_region_held_drew (S := (fun w'' => w''.cell? ⟨w.heap.size, 0, none⟩ = some (.int .i64 h.fl) ∧ w''.cell? ⟨w.heap.size, 1, none⟩ = some (.int .i64 h.gp) ∧ w''.cell? ⟨w.heap.size, 2, none⟩ = some (.int .i64 h.ln) ∧ w''.cell? ⟨w.heap.size, 3, none⟩ = some (.int .i64 h.rf) ∧ w''.cell? ⟨w.heap.size, 4, none⟩ = some (.int .i64 h.sp) ∧ w''.cell? ⟨w.heap.size, 5, none⟩ = some (.int .i64 h.pu) ∧ w''.cell? ⟨w.heap.size, 6, none⟩ = some (.int .i64 h.br) ∧ w''.cell? ⟨w.heap.size, 7, none⟩ = some (.int .i64 h.dr) ∧ w''.cell? ⟨w.heap.size, 8, none⟩ = some (.int .i64 h.lv) ∧ w''.cell? ⟨w.heap.size, 9, none⟩ = some (.int .i64 h.dO) ∧ w''.cell? ⟨w.heap.size, 10, none⟩ = some (.int .i64 h.ld) ∧ w''.cell? ⟨w.heap.size, 11, none⟩ = some (.int .i64 h.qu) ∧ w''.cell? ⟨(w.heap.size + 1), 0, none⟩ = some (.int .i64 x.l.lo) ∧ w''.cell? ⟨(w.heap.size + 1), 1, none⟩ = some (.int .i64 x.l.hi) ∧ w''.cell? ⟨(w.heap.size + 1), 2, none⟩ = some (.int .i64 x.u.lo) ∧ w''.cell? ⟨(w.heap.size + 1), 3, none⟩ = some (.int .i64 x.u.hi) ∧ w''.cell? ⟨(w.heap.size + 2), 0, none⟩ = some (.int .i64 s.lo.pos) ∧ w''.cell? ⟨(w.heap.size + 2), 1, none⟩ = some (.int .i64 s.lo.vel) ∧ w''.cell? ⟨(w.heap.size + 2), 2, none⟩ = some (.int .i64 s.lo.door) ∧ w''.cell? ⟨(w.heap.size + 2), 3, none⟩ = some (.int .i64 s.up.pos) ∧ w''.cell? ⟨(w.heap.size + 2), 4, none⟩ = some (.int .i64 s.up.vel) ∧ w''.cell? ⟨(w.heap.size + 2), 5, none⟩ = some (.int .i64 s.up.door) ∧ w''.cell? ⟨(w.heap.size + 3), 0, none⟩ = some (.int .i64 0) ∧ w''.cell? ⟨(w.heap.size + 3), 1, none⟩ = some (.int .i64 0) ∧ w''.cell? ⟨(w.heap.size + 3), 2, none⟩ = some (.int .i64 0) ∧ w''.cell? ⟨(w.heap.size + 3), 3, none⟩ = some (.int .i64 0) ∧ w''.cell? ⟨(w.heap.size + 3), 4, none⟩ = some (.int .i64 0))) (by kernel_rfl) (by (try dsimp only); first | exact ⟨x0_0, x0_1, x0_2, x0_3, x0_4, x0_5, x0_6, x0_7, x0_8, x0_9, x0_10, x0_11, x1_0, x1_1, x1_2, x1_3, x2_0, x2_1, x2_2, x2_3, x2_4, x2_5, x3_0, x3_1, x3_2, x3_3, x3_4⟩ | go_keep) (fun hHeld => ?_)
    refine tkz 0 rfl ?_
    refine tkz 1 rfl ?_
    refine tkz 3 rfl ?_
    refine tkz 4 rfl ?_
    refine wpAnyH_ready (rs := [2]) (by kernel_rfl) (by simp) ?_
    refine AllReadyH.cons rfl (fun K hK => ?_) AllReadyH.nil
    go_simp
    refine (implSpansFault_any h x _).mono ?_
    rintro e w1 ⟨rfl, hb⟩
    have F0 : Hid (HAt w1 w.heap.size h) := F0.out.below hb F0.out.lt
    have F1 : Hid (NW w1 (w.heap.size + 1) x) := F1.out.below hb F1.out.lt
    have F2 : Hid (SW w1 (w.heap.size + 2) s) := F2.out.below hb F2.out.lt
    have F3 : Hid (RSps w1 (w.heap.size + 3)) := F3.out.below hb F3.out.lt
    have FB : Hid (Below w.heap.size w w1) := FB.out.trans (hb.mono FB.out.size)
    obtain ⟨x0_0, x0_1, x0_2, x0_3, x0_4, x0_5, x0_6, x0_7, x0_8, x0_9, x0_10, x0_11⟩ := F0.out
    obtain ⟨x1_0, x1_1, x1_2, x1_3, y1_0, y1_1, y1_2, y1_3⟩ := F1.out
    obtain ⟨x2_0, x2_1, x2_2, x2_3, x2_4, x2_5, y2_0, y2_1, y2_2, y2_3, y2_4, y2_5⟩ := F2.out
    obtain ⟨x3_0, x3_1, x3_2, x3_3, x3_4, y3_0, y3_1, y3_2, y3_3, y3_4⟩ := F3.out
    clear hb
    try go_wp2_with fail
    refine hK.out _ _ (by (try dsimp only); go_keep) (fun hHeld => ?_)
    clear hK K
    try simp only [Act.put, List.getElem_toArray, List.getElem_cons_succ, List.getElem_cons_zero, List.setIfInBounds_toArray, List.set_cons_zero, List.set_cons_succ]
    refine wpAnyH_ready (rs := [5]) (by kernel_rfl) (by simp) ?_
    refine AllReadyH.cons rfl (fun K hK => ?_) AllReadyH.nil
    go_simp
    refine (implShaftFault_any h s _).mono ?_
    rintro e w2 ⟨rfl, hb⟩
    have F0 : Hid (HAt w2 w.heap.size h) := F0.out.below hb F0.out.lt
    have F1 : Hid (NW w2 (w.heap.size + 1) x) := F1.out.below hb F1.out.lt
    have F2 : Hid (SW w2 (w.heap.size + 2) s) := F2.out.below hb F2.out.lt
    have F3 : Hid (RSps w2 (w.heap.size + 3)) := F3.out.below hb F3.out.lt
    have FB : Hid (Below w.heap.size w w2) := FB.out.trans (hb.mono FB.out.size)
    obtain ⟨x0_0, x0_1, x0_2, x0_3, x0_4, x0_5, x0_6, x0_7, x0_8, x0_9, x0_10, x0_11⟩ := F0.out
    obtain ⟨x1_0, x1_1, x1_2, x1_3, y1_0, y1_1, y1_2, y1_3⟩ := F1.out
    obtain ⟨x2_0, x2_1, x2_2, x2_3, x2_4, x2_5, y2_0, y2_1, y2_2, y2_3, y2_4, y2_5⟩ := F2.out
    obtain ⟨x3_0, x3_1, x3_2, x3_3, x3_4, y3_0, y3_1, y3_2, y3_3, y3_4⟩ := F3.out
    clear hb
    try go_wp2_with fail
    refine hK.out _ _ (by (try dsimp only); go_keep) (fun hHeld => ?_)
    clear hK K
    try simp only [Act.put, List.getElem_toArray, List.getElem_cons_succ, List.getElem_cons_zero, List.setIfInBounds_toArray, List.set_cons_zero, List.set_cons_succ]
    refine wpAnyH_ready (rs := [6]) (by kernel_rfl) (by simp) ?_
    refine AllReadyH.cons rfl (fun K hK => ?_) AllReadyH.nil
    go_simp
    have F0 : Hid (HAt (w2.alloc (.cells #[.int .i64 (Hs.spans h x), .int .i64 (h.shaft s)] 2)) w.heap.size h) := F0.out.alloc _
    have F1 : Hid (NW (w2.alloc (.cells #[.int .i64 (Hs.spans h x), .int .i64 (h.shaft s)] 2)) (w.heap.size + 1) x) := F1.out.alloc _
    have F2 : Hid (SW (w2.alloc (.cells #[.int .i64 (Hs.spans h x), .int .i64 (h.shaft s)] 2)) (w.heap.size + 2) s) := F2.out.alloc _
    have F3 : Hid (RSps (w2.alloc (.cells #[.int .i64 (Hs.spans h x), .int .i64 (h.shaft s)] 2)) (w.heap.size + 3)) := F3.out.alloc _
    have FB : Hid (Below w.heap.size w (w2.alloc (.cells #[.int .i64 (Hs.spans h x), .int .i64 (h.shaft s)] 2))) := FB.out.alloc FB.out.size _
    obtain ⟨x0_0, x0_1, x0_2, x0_3, x0_4, x0_5, x0_6, x0_7, x0_8, x0_9, x0_10, x0_11⟩ := F0.out
    obtain ⟨x1_0, x1_1, x1_2, x1_3, y1_0, y1_1, y1_2, y1_3⟩ := F1.out
    obtain ⟨x2_0, x2_1, x2_2, x2_3, x2_4, x2_5, y2_0, y2_1, y2_2, y2_3, y2_4, y2_5⟩ := F2.out
    obtain ⟨x3_0, x3_1, x3_2, x3_3, x3_4, y3_0, y3_1, y3_2, y3_3, y3_4⟩ := F3.out
    refine hK.out _ _ (by (try dsimp only); go_keep) (fun hHeld => ?_)
    clear hK K
    try simp only [Act.put, List.getElem_toArray, List.getElem_cons_succ, List.getElem_cons_zero, List.setIfInBounds_toArray, List.set_cons_zero, List.set_cons_succ]
    refine wpAnyH_ready (rs := [7]) (by kernel_rfl) (by simp) ?_
    refine AllReadyH.cons rfl (fun K hK => ?_) AllReadyH.nil
    go_simp
    refine (or_first (Hs.spans h x) (h.shaft s) hf _ _ (by simp) (by simp)).mono ?_
    rintro e w' ⟨rfl, hw⟩
    obtain rfl := hw.symm
    clear hw
    try go_wp2_with fail
    refine hK.out _ _ (by (try dsimp only); go_keep) (fun hHeld => ?_)
    clear hK K
    try simp only [Act.put, List.getElem_toArray, List.getElem_cons_succ, List.getElem_cons_zero, List.setIfInBounds_toArray, List.set_cons_zero, List.set_cons_succ]
    refine tkz 8 rfl ?_
    refine wpAnyH_done (by kernel_rfl) ?_ _
    go_wp2_with fail
    exact bodyPost_ret (v := .agg #[.int .i64 (Hs.spans h x), .int .i64 0, .int .i64 0, .int .i64 0, .int .i64 0]) (by simp [results, Try.results13, go_sem, x3_0, x3_1, x3_2, x3_3, x3_4]) rfl ⟨rfl, by repeat (first | exact FB.out | (refine Below.setCell ?_ (by simp <;> omega) _))⟩
end Go.Proofs.Ytpfihpplpefikaa
