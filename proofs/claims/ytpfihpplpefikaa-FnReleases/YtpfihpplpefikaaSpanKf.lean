/-
  The program's floor of a car.
-/
import Derived.Test.YtpfihpplpefikaaNearI
import Derived.Test.YtpfihpplpefikaaSpan
import Derived.Deep.RegionHeld3
namespace Go.Proofs.Ytpfihpplpefikaa
open Go.RowKit Pl
set_option linter.unusedSimpArgs false
set_option linter.unusedVariables false

theorem lev_mono {h : Hs} (o : h.Ok) {f g : Int} (f1 : -1 ≤ f) (fg : f < g) (g2 : g ≤ h.fl) : h.level f < h.level g := by
  have a1 := o.fl1; have a2 := o.gp1; have a3 := o.rf1
  unfold Hs.level
  rw [if_neg (show ¬ g < 0 by omega), if_neg (show ¬ h.fl ≤ f by omega)]
  by_cases c0 : f < 0
  · rw [if_pos c0]
    by_cases c1 : h.fl ≤ g
    · rw [if_pos c1]
      have := Int.mul_nonneg (show 0 ≤ h.fl - 1 by omega) (show 0 ≤ h.gp by omega)
      omega
    · rw [if_neg c1]
      have := Int.mul_nonneg (show 0 ≤ g by omega) (show 0 ≤ h.gp by omega)
      omega
  · rw [if_neg c0]
    by_cases c1 : h.fl ≤ g
    · rw [if_pos c1]
      have := Int.mul_le_mul_of_nonneg_right (show f ≤ h.fl - 1 by omega) (show 0 ≤ h.gp by omega)
      omega
    · rw [if_neg c1]
      exact Int.mul_lt_mul_of_pos_right fg (by omega)
/-- Who is beyond a refuge is nearest to it. -/
theorem near_clamp {h : Hs} (o : h.Ok) {p r : Int} (a : h.NearTo p (h.fl + 1) r) : h.NearTo (max (h.level (-1)) (min (h.level h.fl) p)) (h.fl + 1) r := by
  have a1 := o.fl1
  have m := lev_mono o (f := -1) (g := h.fl) (by omega) (by omega) (by omega)
  obtain ⟨r1, r2, r3, r4⟩ := a
  by_cases c1 : p < h.level (-1)
  · have e : max (h.level (-1)) (min (h.level h.fl) p) = h.level (-1) := by omega
    have er : r = -1 := by
      by_cases q : r = -1
      · exact q
      · have t := r3 (-1) (by omega) (by omega)
        have mm := lev_mono o (f := -1) (g := r) (by omega) (by omega) (by omega)
        unfold Hs.dist absI at t
        exfalso
        revert t
        (repeat' split) <;> omega
    subst er
    rw [e]
    refine ⟨by omega, by omega, fun f f1 f2 => by omega, fun f f1 f2 => ?_⟩
    unfold Hs.dist absI
    (repeat' split) <;> omega
  · by_cases c2 : h.level h.fl < p
    · have e : max (h.level (-1)) (min (h.level h.fl) p) = h.level h.fl := by omega
      have er : r = h.fl := by
        by_cases q : r = h.fl
        · exact q
        · have t := r4 h.fl (by omega) (by omega)
          have mm := lev_mono o (f := r) (g := h.fl) (by omega) (by omega) (by omega)
          unfold Hs.dist absI at t
          exfalso
          revert t
          (repeat' split) <;> omega
      subst er
      rw [e]
      refine ⟨by omega, by omega, fun f f1 f2 => ?_, fun f f1 f2 => by omega⟩
      have mm := lev_mono o (f := f) (g := h.fl) (by omega) (by omega) (by omega)
      unfold Hs.dist absI
      (repeat' split) <;> omega
    · have e : max (h.level (-1)) (min (h.level h.fl) p) = p := by omega
      rw [e]
      exact ⟨r1, r2, r3, r4⟩
set_option maxRecDepth 20000 in
set_option maxHeartbeats 8000000 in
theorem floorOf_any (h : Hs) (c : Cs) (k : CarOk h c) (v : Int) (hv : Hs.at6 h c.pos = v) (w : World) :
    Calls Try.prog 69 #[.agg #[.int .i64 h.fl, .int .i64 h.gp, .int .i64 h.ln, .int .i64 h.rf, .int .i64 h.sp, .int .i64 h.pu, .int .i64 h.br, .int .i64 h.dr, .int .i64 h.lv, .int .i64 h.dO, .int .i64 h.ld, .int .i64 h.qu], .agg #[.int .i64 c.pos, .int .i64 c.vel, .int .i64 c.door]] w fun e w' => e = .returned (.int .i64 v) ∧ Below w.heap.size w w' := by
  have en := car_env k
  have HO : Hid h.Ok := k.ok
  have HV : Hid (Hs.at6 h c.pos = v) := hv
  clear k hv
  have F0 : Hid (HAt ((w.alloc (.cells #[.int .i64 h.fl, .int .i64 h.gp, .int .i64 h.ln, .int .i64 h.rf, .int .i64 h.sp, .int .i64 h.pu, .int .i64 h.br, .int .i64 h.dr, .int .i64 h.lv, .int .i64 h.dO, .int .i64 h.ld, .int .i64 h.qu] 25)).alloc (.cells #[.int .i64 c.pos, .int .i64 c.vel, .int .i64 c.door] 38)) w.heap.size h) := (HAt.at_ w h _ _ (by simp)).alloc _
  have F1 : Hid (CW ((w.alloc (.cells #[.int .i64 h.fl, .int .i64 h.gp, .int .i64 h.ln, .int .i64 h.rf, .int .i64 h.sp, .int .i64 h.pu, .int .i64 h.br, .int .i64 h.dr, .int .i64 h.lv, .int .i64 h.dO, .int .i64 h.ld, .int .i64 h.qu] 25)).alloc (.cells #[.int .i64 c.pos, .int .i64 c.vel, .int .i64 c.door] 38)) (w.heap.size + 1) c) := CW.at_ (w.alloc (.cells #[.int .i64 h.fl, .int .i64 h.gp, .int .i64 h.ln, .int .i64 h.rf, .int .i64 h.sp, .int .i64 h.pu, .int .i64 h.br, .int .i64 h.dr, .int .i64 h.lv, .int .i64 h.dO, .int .i64 h.ld, .int .i64 h.qu] 25)) c _ _ (by simp)
  have FB : Hid (Below w.heap.size w ((w.alloc (.cells #[.int .i64 h.fl, .int .i64 h.gp, .int .i64 h.ln, .int .i64 h.rf, .int .i64 h.sp, .int .i64 h.pu, .int .i64 h.br, .int .i64 h.dr, .int .i64 h.lv, .int .i64 h.dO, .int .i64 h.ld, .int .i64 h.qu] 25)).alloc (.cells #[.int .i64 c.pos, .int .i64 c.vel, .int .i64 c.door] 38))) := (((Below.refl _ _).alloc (Nat.le_refl _) _).alloc (by simp <;> omega) _)
  go_enter Try.func69, Try.ntmps69
  go_wp2_with (go_at_call 80; refine (nearestFloor_any h HO.out _ (by omega) (by omega) _).mono ?_; rintro e w1 ⟨r, hr, rfl, hb⟩; have HR : Hid (v = r) := HV.out.symm.trans (Hs.at6_of HO.out (near_clamp HO.out hr)); clear hr; have F0 : Hid (HAt w1 w.heap.size h) := F0.out.below hb F0.out.lt; have F1 : Hid (CW w1 (w.heap.size + 1) c) := F1.out.below hb F1.out.lt; have FB : Hid (Below w.heap.size w w1) := FB.out.trans (hb.mono FB.out.size); obtain ⟨x0_0, x0_1, x0_2, x0_3, x0_4, x0_5, x0_6, x0_7, x0_8, x0_9, x0_10, x0_11⟩ := F0.out; obtain ⟨x1_0, x1_1, x1_2, y1_0, y1_1, y1_2⟩ := F1.out; clear hb)
  go_ret
  exact ⟨ret_int HR.out.symm, FB.out⟩
end Go.Proofs.Ytpfihpplpefikaa
