/-
  Several texts in one (merge.py): SpanK, SpanK.
-/
import Derived.Test.YtfombjiocneadaaHouseG
import Derived.Test.YtfombjiocneadaaCellsN
import Derived.Test.YtfombjiocneadaaCellsG
import Derived.Test.YtfombjiocneadaaNearI
import Derived.Test.YtfombjiocneadaaCarK
import Derived.Test.YtfombjiocneadaaSpanC
namespace Go.Proofs.Ytfombjiocneadaa
open Go.RowKit Pl
set_option linter.unusedSimpArgs false
set_option linter.unusedVariables false

theorem lev_mono {h : Hs} (o : h.Ok) {f g : Int} (f1 : -1 ≤ f) (fg : f < g) (g2 : g ≤ h.fl) : h.level f < h.level g := by
  have a1 := o.fl1; have a2 := o.gp1; have a3 := o.rf1
  unfold Hs.level
  rw [if_neg (show ¬ g < 0 by omega), if_neg (show ¬ h.fl ≤ f by omega)]
  by_cases c0 : f < 0
  · rw [if_pos c0]
    by_cases c1 : h.fl ≤ g
    · rw [if_pos c1]
      have := Int.mul_nonneg (show 0 ≤ h.fl - 1 by omega) (show 0 ≤ h.gp by omega)
      omega
    · rw [if_neg c1]
      have := Int.mul_nonneg (show 0 ≤ g by omega) (show 0 ≤ h.gp by omega)
      omega
  · rw [if_neg c0]
    by_cases c1 : h.fl ≤ g
    · rw [if_pos c1]
      have := Int.mul_le_mul_of_nonneg_right (show f ≤ h.fl - 1 by omega) (show 0 ≤ h.gp by omega)
      omega
    · rw [if_neg c1]
      exact Int.mul_lt_mul_of_pos_right fg (by omega)
/-- Who is beyond a refuge is nearest to it. -/
theorem near_clamp {h : Hs} (o : h.Ok) {p r : Int} (a : h.NearTo p (h.fl + 1) r) : h.NearTo (max (h.level (-1)) (min (h.level h.fl) p)) (h.fl + 1) r := by
  have a1 := o.fl1
  have m := lev_mono o (f := -1) (g := h.fl) (by omega) (by omega) (by omega)
  obtain ⟨r1, r2, r3, r4⟩ := a
  by_cases c1 : p < h.level (-1)
  · have e : max (h.level (-1)) (min (h.level h.fl) p) = h.level (-1) := by omega
    have er : r = -1 := by
      by_cases q : r = -1
      · exact q
      · have t := r3 (-1) (by omega) (by omega)
        have mm := lev_mono o (f := -1) (g := r) (by omega) (by omega) (by omega)
        unfold Hs.dist absI at t
        exfalso
        revert t
        (repeat' split) <;> omega
    subst er
    rw [e]
    refine ⟨by omega, by omega, fun f f1 f2 => by omega, fun f f1 f2 => ?_⟩
    unfold Hs.dist absI
    (repeat' split) <;> omega
  · by_cases c2 : h.level h.fl < p
    · have e : max (h.level (-1)) (min (h.level h.fl) p) = h.level h.fl := by omega
      have er : r = h.fl := by
        by_cases q : r = h.fl
        · exact q
        · have t := r4 h.fl (by omega) (by omega)
          have mm := lev_mono o (f := r) (g := h.fl) (by omega) (by omega) (by omega)
          unfold Hs.dist absI at t
          exfalso
          revert t
          (repeat' split) <;> omega
      subst er
      rw [e]
      refine ⟨by omega, by omega, fun f f1 f2 => ?_, fun f f1 f2 => by omega⟩
      have mm := lev_mono o (f := f) (g := h.fl) (by omega) (by omega) (by omega)
      unfold Hs.dist absI
      (repeat' split) <;> omega
    · have e : max (h.level (-1)) (min (h.level h.fl) p) = p := by omega
      rw [e]
      exact ⟨r1, r2, r3, r4⟩
set_option maxRecDepth 20000 in
set_option maxHeartbeats 8000000 in
theorem floorOf_any (h : Hs) (c : Cs) (k : CarOk h c) (v : Int) (hv : Hs.at6 h c.pos = v) (w : World) :
    Calls Try.prog 49 #[.agg #[.int .i64 h.fl, .int .i64 h.gp, .int .i64 h.ln, .int .i64 h.rf, .int .i64 h.sp, .int .i64 h.pu, .int .i64 h.br, .int .i64 h.dr, .int .i64 h.lv, .int .i64 h.dO, .int .i64 h.ld, .int .i64 h.qu], .agg #[.int .i64 c.pos, .int .i64 c.vel, .int .i64 c.door]] w fun e w' => e = .returned (.int .i64 v) ∧ Below w.heap.size w w' := by
  have en := car_env k
  have HO : Hid h.Ok := k.ok
  have HV : Hid (Hs.at6 h c.pos = v) := hv
  clear k hv
  have F0 : Hid (HAt ((w.alloc (.cells #[.int .i64 h.fl, .int .i64 h.gp, .int .i64 h.ln, .int .i64 h.rf, .int .i64 h.sp, .int .i64 h.pu, .int .i64 h.br, .int .i64 h.dr, .int .i64 h.lv, .int .i64 h.dO, .int .i64 h.ld, .int .i64 h.qu] 25)).alloc (.cells #[.int .i64 c.pos, .int .i64 c.vel, .int .i64 c.door] 27)) w.heap.size h) := (HAt.at_ w h _ _ (by simp)).alloc _
  have F1 : Hid (CW ((w.alloc (.cells #[.int .i64 h.fl, .int .i64 h.gp, .int .i64 h.ln, .int .i64 h.rf, .int .i64 h.sp, .int .i64 h.pu, .int .i64 h.br, .int .i64 h.dr, .int .i64 h.lv, .int .i64 h.dO, .int .i64 h.ld, .int .i64 h.qu] 25)).alloc (.cells #[.int .i64 c.pos, .int .i64 c.vel, .int .i64 c.door] 27)) (w.heap.size + 1) c) := CW.at_ (w.alloc (.cells #[.int .i64 h.fl, .int .i64 h.gp, .int .i64 h.ln, .int .i64 h.rf, .int .i64 h.sp, .int .i64 h.pu, .int .i64 h.br, .int .i64 h.dr, .int .i64 h.lv, .int .i64 h.dO, .int .i64 h.ld, .int .i64 h.qu] 25)) c _ _ (by simp)
  have FB : Hid (Below w.heap.size w ((w.alloc (.cells #[.int .i64 h.fl, .int .i64 h.gp, .int .i64 h.ln, .int .i64 h.rf, .int .i64 h.sp, .int .i64 h.pu, .int .i64 h.br, .int .i64 h.dr, .int .i64 h.lv, .int .i64 h.dO, .int .i64 h.ld, .int .i64 h.qu] 25)).alloc (.cells #[.int .i64 c.pos, .int .i64 c.vel, .int .i64 c.door] 27))) := (((Below.refl _ _).alloc (Nat.le_refl _) _).alloc (by simp <;> omega) _)
  go_enter Try.func49, Try.ntmps49
  go_wp2_with (go_at_call 75; refine (nearestFloor_any h HO.out _ (by omega) (by omega) _).mono ?_; rintro e w1 ⟨r, hr, rfl, hb⟩; have HR : Hid (v = r) := HV.out.symm.trans (Hs.at6_of HO.out (near_clamp HO.out hr)); clear hr; have F0 : Hid (HAt w1 w.heap.size h) := F0.out.below hb F0.out.lt; have F1 : Hid (CW w1 (w.heap.size + 1) c) := F1.out.below hb F1.out.lt; have FB : Hid (Below w.heap.size w w1) := FB.out.trans (hb.mono FB.out.size); obtain ⟨x0_0, x0_1, x0_2, x0_3, x0_4, x0_5, x0_6, x0_7, x0_8, x0_9, x0_10, x0_11⟩ := F0.out; obtain ⟨x1_0, x1_1, x1_2, y1_0, y1_1, y1_2⟩ := F1.out; clear hb)
  go_ret
  exact ⟨ret_int HR.out.symm, FB.out⟩
end Go.Proofs.Ytfombjiocneadaa

namespace Go.Proofs.Ytfombjiocneadaa
open Go.RowKit Pl
set_option linter.unusedSimpArgs false
set_option linter.unusedVariables false

def asideR (goal side x y : Int) : Int := if (x ≠ -2 ∧ 0 < (x - goal) * side) then x else if (y ≠ -2 ∧ 0 < (y - goal) * side) then y else goal + side
set_option maxRecDepth 20000 in
set_option maxHeartbeats 8000000 in
theorem aside_any (goal side x y : Int) (hs : side = 1 ∨ side = -1) (g1 : -1000 ≤ goal) (g2 : goal ≤ 1000) (x1 : -1000 ≤ x) (x2 : x ≤ 1000) (y1 : -1000 ≤ y) (y2 : y ≤ 1000) (b : Nat) (w : World) (c0 : w.cell? ⟨b, 0, none⟩ = some (.int .i64 x)) (c1 : w.cell? ⟨b, 1, none⟩ = some (.int .i64 y)) :
    Calls Try.prog 48 #[.int .i64 goal, .int .i64 side, .slice (some ⟨b, 0, none⟩) 2 2] w fun e w' => e = .returned (.int .i64 (asideR goal side x y)) ∧ w' = w := by
  have e1 : IntKind.i64.wrap (x - goal) = x - goal := IntWalk.i64_in _ (by omega)
  have e2 : IntKind.i64.wrap ((x - goal) * side) = (x - goal) * side := IntWalk.i64_in _ (by rcases hs with rfl | rfl <;> omega)
  have e3 : IntKind.i64.wrap (y - goal) = y - goal := IntWalk.i64_in _ (by omega)
  have e4 : IntKind.i64.wrap ((y - goal) * side) = (y - goal) * side := IntWalk.i64_in _ (by rcases hs with rfl | rfl <;> omega)
  have e5 : IntKind.i64.wrap (goal + side) = goal + side := IntWalk.i64_in _ (by omega)
  obtain ⟨r, hr⟩ : ∃ r, asideR goal side x y = r := ⟨_, rfl⟩
  rw [hr]
  have HR : Hid (asideR goal side x y = r) := hr
  clear hr hs g1 g2 x1 x2 y1 y2
  go_enter Try.func48, Try.ntmps48
  go_wp2
  go_loop [11] (fun i => i = .int .i64 0 ∨ (i = .int .i64 1 ∧ ¬ (x ≠ -2 ∧ 0 < (x - goal) * side)) ∨ (i = .int .i64 2 ∧ ¬ (x ≠ -2 ∧ 0 < (x - goal) * side) ∧ ¬ (y ≠ -2 ∧ 0 < (y - goal) * side))) (fun i => (2 - intOf i).toNat)
  case atStart => exact Or.inl rfl
  case round =>
    rcases hrel with h | ⟨h, nx⟩ | ⟨h, nx, ny⟩
    · subst h
      by_cases hx : x = -2
      · have b0 : (x != -2) = false := by simpa using hx
        go_wp2
        go_round
        case rel => exact Or.inr (Or.inl ⟨rfl, fun q => q.1 hx⟩)
        case measure => simp [intOf]
      · have b0 : (x != -2) = true := by simpa using hx
        by_cases hp : 0 < (x - goal) * side
        · have b1 : decide (0 < (x - goal) * side) = true := decide_eq_true hp
          have HE : Hid (x = r) := by rw [← HR.out]; unfold asideR; rw [if_pos ⟨hx, hp⟩]; exact rfl
          clear hx hp
          go_wp2
          go_ret
          exact ⟨ret_int HE.out, rfl⟩
        · have b1 : decide (0 < (x - goal) * side) = false := decide_eq_false hp
          clear hx
          go_wp2
          go_round
          case rel => exact Or.inr (Or.inl ⟨rfl, fun q => hp q.2⟩)
          case measure => simp [intOf]
    · have NX : Hid (¬ (x ≠ -2 ∧ 0 < (x - goal) * side)) := nx
      clear nx
      subst h
      by_cases hx : y = -2
      · have b0 : (y != -2) = false := by simpa using hx
        go_wp2
        go_round
        case rel => exact Or.inr (Or.inr ⟨rfl, NX.out, fun q => q.1 hx⟩)
        case measure => simp [intOf]
      · have b0 : (y != -2) = true := by simpa using hx
        by_cases hp : 0 < (y - goal) * side
        · have b1 : decide (0 < (y - goal) * side) = true := decide_eq_true hp
          have HE : Hid (y = r) := by rw [← HR.out]; unfold asideR; rw [if_neg NX.out, if_pos ⟨hx, hp⟩]; exact rfl
          clear hx hp
          go_wp2
          go_ret
          exact ⟨ret_int HE.out, rfl⟩
        · have b1 : decide (0 < (y - goal) * side) = false := decide_eq_false hp
          clear hx
          go_wp2
          go_round
          case rel => exact Or.inr (Or.inr ⟨rfl, NX.out, fun q => hp q.2⟩)
          case measure => simp [intOf]
    · subst h
      have HE : Hid (goal + side = r) := by rw [← HR.out]; unfold asideR; rw [if_neg nx, if_neg ny]; exact rfl
      clear nx ny
      go_wp2
      go_ret
      exact ⟨ret_int HE.out, rfl⟩
set_option maxRecDepth 20000 in
set_option maxHeartbeats 16000000 in
theorem implGoalsFor_any (h : Hs) (s : Sh) (lead goal other : Int) (w : World) :
    Calls Try.prog 16 #[.agg #[.int .i64 h.fl, .int .i64 h.gp, .int .i64 h.ln, .int .i64 h.rf, .int .i64 h.sp, .int .i64 h.pu, .int .i64 h.br, .int .i64 h.dr, .int .i64 h.lv, .int .i64 h.dO, .int .i64 h.ld, .int .i64 h.qu], .agg #[.int .i64 s.lo.pos, .int .i64 s.lo.vel, .int .i64 s.lo.door, .int .i64 s.up.pos, .int .i64 s.up.vel, .int .i64 s.up.door], .int .i64 lead, .int .i64 goal, .int .i64 other] w (isGoal w (Hs.goalK h s lead goal other) (Hs.goalV h s lead goal other).1 (Hs.goalV h s lead goal other).2) := by
  have F0 : Hid (HAt (((w.alloc (.cells #[.int .i64 h.fl, .int .i64 h.gp, .int .i64 h.ln, .int .i64 h.rf, .int .i64 h.sp, .int .i64 h.pu, .int .i64 h.br, .int .i64 h.dr, .int .i64 h.lv, .int .i64 h.dO, .int .i64 h.ld, .int .i64 h.qu] 25)).alloc (.cells #[.int .i64 s.lo.pos, .int .i64 s.lo.vel, .int .i64 s.lo.door, .int .i64 s.up.pos, .int .i64 s.up.vel, .int .i64 s.up.door] 37)).alloc (.cells #[.int .i64 0, .int .i64 0, .int .i64 0] 46)) w.heap.size h) := ((HAt.at_ w h _ _ (by simp)).alloc _).alloc _
  have F1 : Hid (SW (((w.alloc (.cells #[.int .i64 h.fl, .int .i64 h.gp, .int .i64 h.ln, .int .i64 h.rf, .int .i64 h.sp, .int .i64 h.pu, .int .i64 h.br, .int .i64 h.dr, .int .i64 h.lv, .int .i64 h.dO, .int .i64 h.ld, .int .i64 h.qu] 25)).alloc (.cells #[.int .i64 s.lo.pos, .int .i64 s.lo.vel, .int .i64 s.lo.door, .int .i64 s.up.pos, .int .i64 s.up.vel, .int .i64 s.up.door] 37)).alloc (.cells #[.int .i64 0, .int .i64 0, .int .i64 0] 46)) (w.heap.size + 1) s) := (SW.at_ (w.alloc (.cells #[.int .i64 h.fl, .int .i64 h.gp, .int .i64 h.ln, .int .i64 h.rf, .int .i64 h.sp, .int .i64 h.pu, .int .i64 h.br, .int .i64 h.dr, .int .i64 h.lv, .int .i64 h.dO, .int .i64 h.ld, .int .i64 h.qu] 25)) s _ _ (by simp)).alloc _
  have F2 : Hid (RGls (((w.alloc (.cells #[.int .i64 h.fl, .int .i64 h.gp, .int .i64 h.ln, .int .i64 h.rf, .int .i64 h.sp, .int .i64 h.pu, .int .i64 h.br, .int .i64 h.dr, .int .i64 h.lv, .int .i64 h.dO, .int .i64 h.ld, .int .i64 h.qu] 25)).alloc (.cells #[.int .i64 s.lo.pos, .int .i64 s.lo.vel, .int .i64 s.lo.door, .int .i64 s.up.pos, .int .i64 s.up.vel, .int .i64 s.up.door] 37)).alloc (.cells #[.int .i64 0, .int .i64 0, .int .i64 0] 46)) (w.heap.size + 2)) := RGls.at_ ((w.alloc (.cells #[.int .i64 h.fl, .int .i64 h.gp, .int .i64 h.ln, .int .i64 h.rf, .int .i64 h.sp, .int .i64 h.pu, .int .i64 h.br, .int .i64 h.dr, .int .i64 h.lv, .int .i64 h.dO, .int .i64 h.ld, .int .i64 h.qu] 25)).alloc (.cells #[.int .i64 s.lo.pos, .int .i64 s.lo.vel, .int .i64 s.lo.door, .int .i64 s.up.pos, .int .i64 s.up.vel, .int .i64 s.up.door] 37)) _ _ (by simp)
  have FB : Hid (Below w.heap.size w (((w.alloc (.cells #[.int .i64 h.fl, .int .i64 h.gp, .int .i64 h.ln, .int .i64 h.rf, .int .i64 h.sp, .int .i64 h.pu, .int .i64 h.br, .int .i64 h.dr, .int .i64 h.lv, .int .i64 h.dO, .int .i64 h.ld, .int .i64 h.qu] 25)).alloc (.cells #[.int .i64 s.lo.pos, .int .i64 s.lo.vel, .int .i64 s.lo.door, .int .i64 s.up.pos, .int .i64 s.up.vel, .int .i64 s.up.door] 37)).alloc (.cells #[.int .i64 0, .int .i64 0, .int .i64 0] 46))) := ((((Below.refl _ _).alloc (Nat.le_refl _) _).alloc (by simp <;> omega) _).alloc (by simp <;> omega) _)
  by_cases hk : h.shaft s = 0
  · have o := (Hs.car_zero (shaft_parts hk).1).ok
    have f1 := o.fl1; have f2 := o.fl2
    have en : IntKind.i64.wrap (h.fl - 1) = h.fl - 1 := IntWalk.i64_in _ (by omega)
    have HO : Hid h.Ok := o
    clear o
    cases i1 : inB lead 0 1 with
    | false =>
      have q1 : Hs.goalK h s lead goal other = 3 := by unfold Hs.goalK; rw [if_pos hk, if_neg (by rw [i1]; simp)]
      have q2 : Hs.goalV h s lead goal other = (0, 0) := by unfold Hs.goalV; rw [q1]; exact if_neg (by omega)
      rw [q1, q2]
      clear q1 q2
      go_enter Try.func16, Try.ntmps16
      go_wp2_with (first | (go_at_call 13; refine (implShaftFault_any h s _).mono ?_; rw [hk]; rintro e w1 ⟨rfl, hb⟩; have F0 : Hid (HAt w1 w.heap.size h) := F0.out.below hb F0.out.lt; have F1 : Hid (SW w1 (w.heap.size + 1) s) := F1.out.below hb F1.out.lt; have F2 : Hid (RGls w1 (w.heap.size + 2)) := F2.out.below hb F2.out.lt; have FB : Hid (Below w.heap.size w w1) := FB.out.trans (hb.mono FB.out.size); obtain ⟨x0_0, x0_1, x0_2, x0_3, x0_4, x0_5, x0_6, x0_7, x0_8, x0_9, x0_10, x0_11⟩ := F0.out; obtain ⟨x1_0, x1_1, x1_2, x1_3, x1_4, x1_5, y1_0, y1_1, y1_2, y1_3, y1_4, y1_5⟩ := F1.out; obtain ⟨x2_0, x2_1, x2_2, y2_0, y2_1, y2_2⟩ := F2.out; clear hb) | (go_at_call 31; refine (isWithin_any _ _ _ _).mono ?_; rintro e w' ⟨rfl, hw⟩; obtain rfl := hw.symm; clear hw) | (go_at_call 44; refine (isFloor_any h goal (by omega) (by omega) _).mono ?_; rintro e w7 ⟨rfl, hb⟩; have F0 : Hid (HAt w7 w.heap.size h) := F0.out.below hb F0.out.lt; have F1 : Hid (SW w7 (w.heap.size + 1) s) := F1.out.below hb F1.out.lt; have F2 : Hid (RGls w7 (w.heap.size + 2)) := F2.out.below hb F2.out.lt; have FB : Hid (Below w.heap.size w w7) := FB.out.trans (hb.mono FB.out.size); obtain ⟨x0_0, x0_1, x0_2, x0_3, x0_4, x0_5, x0_6, x0_7, x0_8, x0_9, x0_10, x0_11⟩ := F0.out; obtain ⟨x1_0, x1_1, x1_2, x1_3, x1_4, x1_5, y1_0, y1_1, y1_2, y1_3, y1_4, y1_5⟩ := F1.out; obtain ⟨x2_0, x2_1, x2_2, y2_0, y2_1, y2_2⟩ := F2.out; clear hb))
      exact bodyPost_ret (v := .agg #[.int .i64 3, .int .i64 0, .int .i64 0]) (by simp [results, Try.results16, go_sem, x2_0, x2_1, x2_2]) rfl ⟨rfl, by repeat (first | exact FB.out | (refine Below.setCell ?_ (by simp <;> omega) _))⟩
    | true =>
      cases i2 : inB goal 0 (h.fl - 1) with
      | false =>
        have q1 : Hs.goalK h s lead goal other = 3 := by unfold Hs.goalK; rw [if_pos hk, if_neg (by rw [i2]; simp)]
        have q2 : Hs.goalV h s lead goal other = (0, 0) := by unfold Hs.goalV; rw [q1]; exact if_neg (by omega)
        rw [q1, q2]
        clear q1 q2
        go_enter Try.func16, Try.ntmps16
        go_wp2_with (first | (go_at_call 13; refine (implShaftFault_any h s _).mono ?_; rw [hk]; rintro e w1 ⟨rfl, hb⟩; have F0 : Hid (HAt w1 w.heap.size h) := F0.out.below hb F0.out.lt; have F1 : Hid (SW w1 (w.heap.size + 1) s) := F1.out.below hb F1.out.lt; have F2 : Hid (RGls w1 (w.heap.size + 2)) := F2.out.below hb F2.out.lt; have FB : Hid (Below w.heap.size w w1) := FB.out.trans (hb.mono FB.out.size); obtain ⟨x0_0, x0_1, x0_2, x0_3, x0_4, x0_5, x0_6, x0_7, x0_8, x0_9, x0_10, x0_11⟩ := F0.out; obtain ⟨x1_0, x1_1, x1_2, x1_3, x1_4, x1_5, y1_0, y1_1, y1_2, y1_3, y1_4, y1_5⟩ := F1.out; obtain ⟨x2_0, x2_1, x2_2, y2_0, y2_1, y2_2⟩ := F2.out; clear hb) | (go_at_call 31; refine (isWithin_any _ _ _ _).mono ?_; rintro e w' ⟨rfl, hw⟩; obtain rfl := hw.symm; clear hw) | (go_at_call 44; refine (isFloor_any h goal (by omega) (by omega) _).mono ?_; rintro e w7 ⟨rfl, hb⟩; have F0 : Hid (HAt w7 w.heap.size h) := F0.out.below hb F0.out.lt; have F1 : Hid (SW w7 (w.heap.size + 1) s) := F1.out.below hb F1.out.lt; have F2 : Hid (RGls w7 (w.heap.size + 2)) := F2.out.below hb F2.out.lt; have FB : Hid (Below w.heap.size w w7) := FB.out.trans (hb.mono FB.out.size); obtain ⟨x0_0, x0_1, x0_2, x0_3, x0_4, x0_5, x0_6, x0_7, x0_8, x0_9, x0_10, x0_11⟩ := F0.out; obtain ⟨x1_0, x1_1, x1_2, x1_3, x1_4, x1_5, y1_0, y1_1, y1_2, y1_3, y1_4, y1_5⟩ := F1.out; obtain ⟨x2_0, x2_1, x2_2, y2_0, y2_1, y2_2⟩ := F2.out; clear hb))
        exact bodyPost_ret (v := .agg #[.int .i64 3, .int .i64 0, .int .i64 0]) (by simp [results, Try.results16, go_sem, x2_0, x2_1, x2_2]) rfl ⟨rfl, by repeat (first | exact FB.out | (refine Below.setCell ?_ (by simp <;> omega) _))⟩
      | true =>
        cases i3 : inB other (-2) h.fl with
        | false =>
          have q1 : Hs.goalK h s lead goal other = 3 := by unfold Hs.goalK; rw [if_pos hk, if_neg (by rw [i3]; simp)]
          have q2 : Hs.goalV h s lead goal other = (0, 0) := by unfold Hs.goalV; rw [q1]; exact if_neg (by omega)
          rw [q1, q2]
          clear q1 q2
          go_enter Try.func16, Try.ntmps16
          go_wp2_with (first | (go_at_call 13; refine (implShaftFault_any h s _).mono ?_; rw [hk]; rintro e w1 ⟨rfl, hb⟩; have F0 : Hid (HAt w1 w.heap.size h) := F0.out.below hb F0.out.lt; have F1 : Hid (SW w1 (w.heap.size + 1) s) := F1.out.below hb F1.out.lt; have F2 : Hid (RGls w1 (w.heap.size + 2)) := F2.out.below hb F2.out.lt; have FB : Hid (Below w.heap.size w w1) := FB.out.trans (hb.mono FB.out.size); obtain ⟨x0_0, x0_1, x0_2, x0_3, x0_4, x0_5, x0_6, x0_7, x0_8, x0_9, x0_10, x0_11⟩ := F0.out; obtain ⟨x1_0, x1_1, x1_2, x1_3, x1_4, x1_5, y1_0, y1_1, y1_2, y1_3, y1_4, y1_5⟩ := F1.out; obtain ⟨x2_0, x2_1, x2_2, y2_0, y2_1, y2_2⟩ := F2.out; clear hb) | (go_at_call 31; refine (isWithin_any _ _ _ _).mono ?_; rintro e w' ⟨rfl, hw⟩; obtain rfl := hw.symm; clear hw) | (go_at_call 44; refine (isFloor_any h goal (by omega) (by omega) _).mono ?_; rintro e w7 ⟨rfl, hb⟩; have F0 : Hid (HAt w7 w.heap.size h) := F0.out.below hb F0.out.lt; have F1 : Hid (SW w7 (w.heap.size + 1) s) := F1.out.below hb F1.out.lt; have F2 : Hid (RGls w7 (w.heap.size + 2)) := F2.out.below hb F2.out.lt; have FB : Hid (Below w.heap.size w w7) := FB.out.trans (hb.mono FB.out.size); obtain ⟨x0_0, x0_1, x0_2, x0_3, x0_4, x0_5, x0_6, x0_7, x0_8, x0_9, x0_10, x0_11⟩ := F0.out; obtain ⟨x1_0, x1_1, x1_2, x1_3, x1_4, x1_5, y1_0, y1_1, y1_2, y1_3, y1_4, y1_5⟩ := F1.out; obtain ⟨x2_0, x2_1, x2_2, y2_0, y2_1, y2_2⟩ := F2.out; clear hb))
          exact bodyPost_ret (v := .agg #[.int .i64 3, .int .i64 0, .int .i64 0]) (by simp [results, Try.results16, go_sem, x2_0, x2_1, x2_2]) rfl ⟨rfl, by repeat (first | exact FB.out | (refine Below.setCell ?_ (by simp <;> omega) _))⟩
        | true =>
          have q1 : Hs.goalK h s lead goal other = 0 := by unfold Hs.goalK; rw [if_pos hk, if_pos ⟨i1, i2, i3⟩]
          have b1 := inB_iff.1 i2
          have b2 := inB_iff.1 i3
          by_cases z : lead = 0
          · have bz : (lead == 0) = true := by simpa using z
            have KC : Hid (CarOk h s.up) := Hs.car_zero (shaft_parts hk).2.1
            obtain ⟨ft, hft⟩ : ∃ ft, Hs.at6 h s.up.pos = ft := ⟨_, rfl⟩
            have HF : Hid (Hs.at6 h s.up.pos = ft) := hft
            have bf := Hs.at6_bd HO.out s.up.pos
            rw [hft] at bf
            obtain ⟨r, hr⟩ : ∃ r, asideR goal 1 other ft = r := ⟨_, rfl⟩
            have HR : Hid (asideR goal 1 other ft = r) := hr
            have q2 : Hs.goalV h s lead goal other = (goal, r) := by
              unfold Hs.goalV Hs.goals
              rw [if_pos q1, if_pos z, hft, ← hr]
              unfold asideR
              congr 1
              by_cases c1 : other = -2 ∨ other ≤ goal
              · rw [if_pos c1, if_neg (by omega)]
                split <;> omega
              · rw [if_neg c1, if_pos (by omega)]
            rw [q1, q2]
            clear q1 q2 hft hr
            go_enter Try.func16, Try.ntmps16
            go_wp2_with (first | (go_at_call 13; refine (implShaftFault_any h s _).mono ?_; rw [hk]; rintro e w1 ⟨rfl, hb⟩; have F0 : Hid (HAt w1 w.heap.size h) := F0.out.below hb F0.out.lt; have F1 : Hid (SW w1 (w.heap.size + 1) s) := F1.out.below hb F1.out.lt; have F2 : Hid (RGls w1 (w.heap.size + 2)) := F2.out.below hb F2.out.lt; have FB : Hid (Below w.heap.size w w1) := FB.out.trans (hb.mono FB.out.size); obtain ⟨x0_0, x0_1, x0_2, x0_3, x0_4, x0_5, x0_6, x0_7, x0_8, x0_9, x0_10, x0_11⟩ := F0.out; obtain ⟨x1_0, x1_1, x1_2, x1_3, x1_4, x1_5, y1_0, y1_1, y1_2, y1_3, y1_4, y1_5⟩ := F1.out; obtain ⟨x2_0, x2_1, x2_2, y2_0, y2_1, y2_2⟩ := F2.out; clear hb) | (go_at_call 31; refine (isWithin_any _ _ _ _).mono ?_; rintro e w' ⟨rfl, hw⟩; obtain rfl := hw.symm; clear hw) | (go_at_call 44; refine (isFloor_any h goal (by omega) (by omega) _).mono ?_; rintro e w7 ⟨rfl, hb⟩; have F0 : Hid (HAt w7 w.heap.size h) := F0.out.below hb F0.out.lt; have F1 : Hid (SW w7 (w.heap.size + 1) s) := F1.out.below hb F1.out.lt; have F2 : Hid (RGls w7 (w.heap.size + 2)) := F2.out.below hb F2.out.lt; have FB : Hid (Below w.heap.size w w7) := FB.out.trans (hb.mono FB.out.size); obtain ⟨x0_0, x0_1, x0_2, x0_3, x0_4, x0_5, x0_6, x0_7, x0_8, x0_9, x0_10, x0_11⟩ := F0.out; obtain ⟨x1_0, x1_1, x1_2, x1_3, x1_4, x1_5, y1_0, y1_1, y1_2, y1_3, y1_4, y1_5⟩ := F1.out; obtain ⟨x2_0, x2_1, x2_2, y2_0, y2_1, y2_2⟩ := F2.out; clear hb) | (go_at_call 49; refine (floorOf_any h s.up KC.out ft HF.out _).mono ?_; rintro e w2 ⟨rfl, hb⟩; have F0 : Hid (HAt w2 w.heap.size h) := F0.out.below hb F0.out.lt; have F1 : Hid (SW w2 (w.heap.size + 1) s) := F1.out.below hb F1.out.lt; have F2 : Hid (RGls w2 (w.heap.size + 2)) := F2.out.below hb F2.out.lt; have FB : Hid (Below w.heap.size w w2) := FB.out.trans (hb.mono FB.out.size); obtain ⟨x0_0, x0_1, x0_2, x0_3, x0_4, x0_5, x0_6, x0_7, x0_8, x0_9, x0_10, x0_11⟩ := F0.out; obtain ⟨x1_0, x1_1, x1_2, x1_3, x1_4, x1_5, y1_0, y1_1, y1_2, y1_3, y1_4, y1_5⟩ := F1.out; obtain ⟨x2_0, x2_1, x2_2, y2_0, y2_1, y2_2⟩ := F2.out; clear hb) | (go_at_call 48; refine (aside_any goal 1 other ft (by omega) (by omega) (by omega) (by omega) (by omega) (by omega) (by omega) _ _ (by simp) (by simp)).mono ?_; rw [HR.out]; rintro e w' ⟨rfl, hw⟩; obtain rfl := hw.symm; clear hw; have F0 : Hid (HAt (w2.alloc (.cells #[.int .i64 other, .int .i64 ft] 2)) w.heap.size h) := F0.out.alloc _; have F1 : Hid (SW (w2.alloc (.cells #[.int .i64 other, .int .i64 ft] 2)) (w.heap.size + 1) s) := F1.out.alloc _; have F2 : Hid (RGls (w2.alloc (.cells #[.int .i64 other, .int .i64 ft] 2)) (w.heap.size + 2)) := F2.out.alloc _; have FB : Hid (Below w.heap.size w (w2.alloc (.cells #[.int .i64 other, .int .i64 ft] 2))) := FB.out.alloc FB.out.size _; obtain ⟨x0_0, x0_1, x0_2, x0_3, x0_4, x0_5, x0_6, x0_7, x0_8, x0_9, x0_10, x0_11⟩ := F0.out; obtain ⟨x1_0, x1_1, x1_2, x1_3, x1_4, x1_5, y1_0, y1_1, y1_2, y1_3, y1_4, y1_5⟩ := F1.out; obtain ⟨x2_0, x2_1, x2_2, y2_0, y2_1, y2_2⟩ := F2.out))
            exact bodyPost_ret (v := .agg #[.int .i64 0, .int .i64 goal, .int .i64 r]) (by simp [results, Try.results16, go_sem, x2_0, x2_1, x2_2]) rfl ⟨rfl, by repeat (first | exact FB.out | (refine Below.setCell ?_ (by simp <;> omega) _))⟩
          · have bz : (lead == 0) = false := by simpa using z
            have KC : Hid (CarOk h s.lo) := Hs.car_zero (shaft_parts hk).1
            obtain ⟨ft, hft⟩ : ∃ ft, Hs.at6 h s.lo.pos = ft := ⟨_, rfl⟩
            have HF : Hid (Hs.at6 h s.lo.pos = ft) := hft
            have bf := Hs.at6_bd HO.out s.lo.pos
            rw [hft] at bf
            obtain ⟨r, hr⟩ : ∃ r, asideR goal (-1) other ft = r := ⟨_, rfl⟩
            have HR : Hid (asideR goal (-1) other ft = r) := hr
            have q2 : Hs.goalV h s lead goal other = (r, goal) := by
              unfold Hs.goalV Hs.goals
              rw [if_pos q1, if_neg z, hft, ← hr]
              unfold asideR
              congr 1
              by_cases c1 : other = -2 ∨ goal ≤ other
              · rw [if_pos c1, if_neg (by omega)]
                split <;> omega
              · rw [if_neg c1, if_pos (by omega)]
            rw [q1, q2]
            clear q1 q2 hft hr
            go_enter Try.func16, Try.ntmps16
            go_wp2_with (first | (go_at_call 13; refine (implShaftFault_any h s _).mono ?_; rw [hk]; rintro e w1 ⟨rfl, hb⟩; have F0 : Hid (HAt w1 w.heap.size h) := F0.out.below hb F0.out.lt; have F1 : Hid (SW w1 (w.heap.size + 1) s) := F1.out.below hb F1.out.lt; have F2 : Hid (RGls w1 (w.heap.size + 2)) := F2.out.below hb F2.out.lt; have FB : Hid (Below w.heap.size w w1) := FB.out.trans (hb.mono FB.out.size); obtain ⟨x0_0, x0_1, x0_2, x0_3, x0_4, x0_5, x0_6, x0_7, x0_8, x0_9, x0_10, x0_11⟩ := F0.out; obtain ⟨x1_0, x1_1, x1_2, x1_3, x1_4, x1_5, y1_0, y1_1, y1_2, y1_3, y1_4, y1_5⟩ := F1.out; obtain ⟨x2_0, x2_1, x2_2, y2_0, y2_1, y2_2⟩ := F2.out; clear hb) | (go_at_call 31; refine (isWithin_any _ _ _ _).mono ?_; rintro e w' ⟨rfl, hw⟩; obtain rfl := hw.symm; clear hw) | (go_at_call 44; refine (isFloor_any h goal (by omega) (by omega) _).mono ?_; rintro e w7 ⟨rfl, hb⟩; have F0 : Hid (HAt w7 w.heap.size h) := F0.out.below hb F0.out.lt; have F1 : Hid (SW w7 (w.heap.size + 1) s) := F1.out.below hb F1.out.lt; have F2 : Hid (RGls w7 (w.heap.size + 2)) := F2.out.below hb F2.out.lt; have FB : Hid (Below w.heap.size w w7) := FB.out.trans (hb.mono FB.out.size); obtain ⟨x0_0, x0_1, x0_2, x0_3, x0_4, x0_5, x0_6, x0_7, x0_8, x0_9, x0_10, x0_11⟩ := F0.out; obtain ⟨x1_0, x1_1, x1_2, x1_3, x1_4, x1_5, y1_0, y1_1, y1_2, y1_3, y1_4, y1_5⟩ := F1.out; obtain ⟨x2_0, x2_1, x2_2, y2_0, y2_1, y2_2⟩ := F2.out; clear hb) | (go_at_call 49; refine (floorOf_any h s.lo KC.out ft HF.out _).mono ?_; rintro e w2 ⟨rfl, hb⟩; have F0 : Hid (HAt w2 w.heap.size h) := F0.out.below hb F0.out.lt; have F1 : Hid (SW w2 (w.heap.size + 1) s) := F1.out.below hb F1.out.lt; have F2 : Hid (RGls w2 (w.heap.size + 2)) := F2.out.below hb F2.out.lt; have FB : Hid (Below w.heap.size w w2) := FB.out.trans (hb.mono FB.out.size); obtain ⟨x0_0, x0_1, x0_2, x0_3, x0_4, x0_5, x0_6, x0_7, x0_8, x0_9, x0_10, x0_11⟩ := F0.out; obtain ⟨x1_0, x1_1, x1_2, x1_3, x1_4, x1_5, y1_0, y1_1, y1_2, y1_3, y1_4, y1_5⟩ := F1.out; obtain ⟨x2_0, x2_1, x2_2, y2_0, y2_1, y2_2⟩ := F2.out; clear hb) | (go_at_call 48; refine (aside_any goal (-1) other ft (by omega) (by omega) (by omega) (by omega) (by omega) (by omega) (by omega) _ _ (by simp) (by simp)).mono ?_; rw [HR.out]; rintro e w' ⟨rfl, hw⟩; obtain rfl := hw.symm; clear hw; have F0 : Hid (HAt (w2.alloc (.cells #[.int .i64 other, .int .i64 ft] 2)) w.heap.size h) := F0.out.alloc _; have F1 : Hid (SW (w2.alloc (.cells #[.int .i64 other, .int .i64 ft] 2)) (w.heap.size + 1) s) := F1.out.alloc _; have F2 : Hid (RGls (w2.alloc (.cells #[.int .i64 other, .int .i64 ft] 2)) (w.heap.size + 2)) := F2.out.alloc _; have FB : Hid (Below w.heap.size w (w2.alloc (.cells #[.int .i64 other, .int .i64 ft] 2))) := FB.out.alloc FB.out.size _; obtain ⟨x0_0, x0_1, x0_2, x0_3, x0_4, x0_5, x0_6, x0_7, x0_8, x0_9, x0_10, x0_11⟩ := F0.out; obtain ⟨x1_0, x1_1, x1_2, x1_3, x1_4, x1_5, y1_0, y1_1, y1_2, y1_3, y1_4, y1_5⟩ := F1.out; obtain ⟨x2_0, x2_1, x2_2, y2_0, y2_1, y2_2⟩ := F2.out))
            exact bodyPost_ret (v := .agg #[.int .i64 0, .int .i64 r, .int .i64 goal]) (by simp [results, Try.results16, go_sem, x2_0, x2_1, x2_2]) rfl ⟨rfl, by repeat (first | exact FB.out | (refine Below.setCell ?_ (by simp <;> omega) _))⟩
  · have q1 : Hs.goalK h s lead goal other = h.shaft s := by unfold Hs.goalK; rw [if_neg hk]
    have q2 : Hs.goalV h s lead goal other = (0, 0) := by unfold Hs.goalV; rw [q1]; exact if_neg hk
    rw [q1, q2]
    have hn : (h.shaft s != 0) = true := by simpa using hk
    clear hk q1 q2
    go_enter Try.func16, Try.ntmps16
    go_wp2_with (go_at_call 13; refine (implShaftFault_any h s _).mono ?_; rintro e w1 ⟨rfl, hb⟩; have F0 : Hid (HAt w1 w.heap.size h) := F0.out.below hb F0.out.lt; have F1 : Hid (SW w1 (w.heap.size + 1) s) := F1.out.below hb F1.out.lt; have F2 : Hid (RGls w1 (w.heap.size + 2)) := F2.out.below hb F2.out.lt; have FB : Hid (Below w.heap.size w w1) := FB.out.trans (hb.mono FB.out.size); obtain ⟨x0_0, x0_1, x0_2, x0_3, x0_4, x0_5, x0_6, x0_7, x0_8, x0_9, x0_10, x0_11⟩ := F0.out; obtain ⟨x1_0, x1_1, x1_2, x1_3, x1_4, x1_5, y1_0, y1_1, y1_2, y1_3, y1_4, y1_5⟩ := F1.out; obtain ⟨x2_0, x2_1, x2_2, y2_0, y2_1, y2_2⟩ := F2.out; clear hb)
    exact bodyPost_ret (v := .agg #[.int .i64 (h.shaft s), .int .i64 0, .int .i64 0]) (by simp [results, Try.results16, go_sem, x2_0, x2_1, x2_2]) rfl ⟨rfl, by repeat (first | exact FB.out | (refine Below.setCell ?_ (by simp <;> omega) _))⟩
end Go.Proofs.Ytfombjiocneadaa
