/-
  The model's CommandFor, ReachedBy, FarOf.
-/
import Derived.Test.YtmfkegkgibijpaaProfB
namespace Go.Proofs.Ytmfkegkgibijpaa
open Go.RowKit Pl
set_option linter.unusedSimpArgs false
set_option linter.unusedVariables false

theorem ret_cmd {x y : Cm} (h : x = y) : Ending.returned (.agg #[.int .i64 x.push, .bool x.brk, .bool x.opn]) = .returned (.agg #[.int .i64 y.push, .bool y.brk, .bool y.opn]) := by rw [h]
set_option maxRecDepth 20000 in
set_option maxHeartbeats 4000000 in
theorem specCommandFor_any (h : Hs) (c : Cs) (f : Int) (w : World) :
    Calls Try.prog 17 #[.agg #[.int .i64 h.fl, .int .i64 h.gp, .int .i64 h.ln, .int .i64 h.rf, .int .i64 h.sp, .int .i64 h.pu, .int .i64 h.br, .int .i64 h.dr, .int .i64 h.lv, .int .i64 h.dO, .int .i64 h.ld, .int .i64 h.qu], .agg #[.int .i64 c.pos, .int .i64 c.vel, .int .i64 c.door], .int .i64 f] w (isCmd w (Hs.cmdFor h c f)) := by
  have F0 : Hid (HAt (((w.alloc (.cells #[.int .i64 h.fl, .int .i64 h.gp, .int .i64 h.ln, .int .i64 h.rf, .int .i64 h.sp, .int .i64 h.pu, .int .i64 h.br, .int .i64 h.dr, .int .i64 h.lv, .int .i64 h.dO, .int .i64 h.ld, .int .i64 h.qu] 32)).alloc (.cells #[.int .i64 c.pos, .int .i64 c.vel, .int .i64 c.door] 28)).alloc (.cells #[.int .i64 0, .bool false, .bool false] 35)) w.heap.size h) := ((HAt.at_ w h _ _ (by simp)).alloc _).alloc _
  have F1 : Hid (CW (((w.alloc (.cells #[.int .i64 h.fl, .int .i64 h.gp, .int .i64 h.ln, .int .i64 h.rf, .int .i64 h.sp, .int .i64 h.pu, .int .i64 h.br, .int .i64 h.dr, .int .i64 h.lv, .int .i64 h.dO, .int .i64 h.ld, .int .i64 h.qu] 32)).alloc (.cells #[.int .i64 c.pos, .int .i64 c.vel, .int .i64 c.door] 28)).alloc (.cells #[.int .i64 0, .bool false, .bool false] 35)) (w.heap.size + 1) c) := (CW.at_ _ c _ _ (by simp)).alloc _
  have F2 : Hid (XW (((w.alloc (.cells #[.int .i64 h.fl, .int .i64 h.gp, .int .i64 h.ln, .int .i64 h.rf, .int .i64 h.sp, .int .i64 h.pu, .int .i64 h.br, .int .i64 h.dr, .int .i64 h.lv, .int .i64 h.dO, .int .i64 h.ld, .int .i64 h.qu] 32)).alloc (.cells #[.int .i64 c.pos, .int .i64 c.vel, .int .i64 c.door] 28)).alloc (.cells #[.int .i64 0, .bool false, .bool false] 35)) (w.heap.size + 2) (⟨0, false, false⟩ : Cm)) := XW.at_ _ (⟨0, false, false⟩ : Cm) _ _ (by simp)
  have FB : Hid (Below w.heap.size w (((w.alloc (.cells #[.int .i64 h.fl, .int .i64 h.gp, .int .i64 h.ln, .int .i64 h.rf, .int .i64 h.sp, .int .i64 h.pu, .int .i64 h.br, .int .i64 h.dr, .int .i64 h.lv, .int .i64 h.dO, .int .i64 h.ld, .int .i64 h.qu] 32)).alloc (.cells #[.int .i64 c.pos, .int .i64 c.vel, .int .i64 c.door] 28)).alloc (.cells #[.int .i64 0, .bool false, .bool false] 35))) := ((((Below.refl _ _).alloc (Nat.le_refl _) _).alloc (by simp) _).alloc (by simp; omega) _)
  by_cases hk : h.car c = 0
  · have k := Hs.car_zero hk
    have o := k.ok
    have l1 := o.fl1; have l2 := o.fl2; have en := car_env k
    have HO : Hid h.Ok := o
    clear o k
    cases hi : inB f (-1) h.fl with
    | false =>
      have HE : Hid ((Hs.cmdFor h c f) = (⟨0, false, false⟩ : Cm)) := by unfold Hs.cmdFor; rw [if_neg (by rw [hi]; simp)]; exact rfl
      rw [HE.out]
      go_enter Try.func17, Try.ntmps17
      go_wp2_with (first | (go_at_call 28; refine (specCarFault_any h c _).mono ?_; rw [hk]; rintro e w1 ⟨rfl, hb⟩; have F0 : Hid (HAt w1 w.heap.size h) := F0.out.below hb F0.out.lt; have F1 : Hid (CW w1 (w.heap.size + 1) c) := F1.out.below hb F1.out.lt; have F2 : Hid (XW w1 (w.heap.size + 2) (⟨0, false, false⟩ : Cm)) := F2.out.below hb F2.out.lt; have FB : Hid (Below w.heap.size w w1) := FB.out.trans (hb.mono FB.out.size); clear hb; obtain ⟨x0_0, x0_1, x0_2, x0_3, x0_4, x0_5, x0_6, x0_7, x0_8, x0_9, x0_10, x0_11⟩ := F0.out; obtain ⟨x1_0, x1_1, x1_2, y1_0, y1_1, y1_2⟩ := F1.out; obtain ⟨x2_0, x2_1, x2_2, y2_0, y2_1, y2_2⟩ := F2.out; try dsimp only at x2_0 x2_1 x2_2) | (go_at_call 30; refine (l1In_any _ _ _ _).mono ?_; rintro e w' ⟨rfl, hw⟩; obtain rfl := hw.symm; clear hw))
      exact bodyPost_ret (v := .agg #[.int .i64 0, .bool false, .bool false]) (by simp [results, Try.results17, go_sem, x2_0, x2_1, x2_2]) rfl ⟨rfl, by repeat (first | exact FB.out | (refine Below.setCell ?_ (by simp <;> omega) _))⟩
    | true =>
      have b1 : -1 ≤ f := (inB_iff.1 hi).1
      have b2 : f ≤ h.fl := (inB_iff.1 hi).2
      by_cases dz : c.door = 0
      · obtain ⟨x, hx⟩ : ∃ x, Hs.forC h c f = x := ⟨_, rfl⟩
        have HX : Hid (Hs.forC h c f = x) := hx
        have HE : (Hs.cmdFor h c f) = x := by unfold Hs.cmdFor; rw [if_pos ⟨hk, hi, dz⟩]; exact hx
        rw [HE]
        have b0 : (c.door != 0) = false := by simpa using dz
        clear hx dz HE
        go_enter Try.func17, Try.ntmps17
        go_wp2_with (first | (go_at_call 28; refine (specCarFault_any h c _).mono ?_; rw [hk]; rintro e w1 ⟨rfl, hb⟩; have F0 : Hid (HAt w1 w.heap.size h) := F0.out.below hb F0.out.lt; have F1 : Hid (CW w1 (w.heap.size + 1) c) := F1.out.below hb F1.out.lt; have F2 : Hid (XW w1 (w.heap.size + 2) (⟨0, false, false⟩ : Cm)) := F2.out.below hb F2.out.lt; have FB : Hid (Below w.heap.size w w1) := FB.out.trans (hb.mono FB.out.size); clear hb; obtain ⟨x0_0, x0_1, x0_2, x0_3, x0_4, x0_5, x0_6, x0_7, x0_8, x0_9, x0_10, x0_11⟩ := F0.out; obtain ⟨x1_0, x1_1, x1_2, y1_0, y1_1, y1_2⟩ := F1.out; obtain ⟨x2_0, x2_1, x2_2, y2_0, y2_1, y2_2⟩ := F2.out; try dsimp only at x2_0 x2_1 x2_2) | (go_at_call 30; refine (l1In_any _ _ _ _).mono ?_; rintro e w' ⟨rfl, hw⟩; obtain rfl := hw.symm; clear hw) | (go_at_call 41; refine (l4For_any h HO.out c f (by omega) (by omega) (by omega) (by omega) (by omega) (by omega) x HX.out _).mono ?_; rintro e w2 ⟨rfl, hb⟩; have F0 : Hid (HAt w2 w.heap.size h) := F0.out.below hb F0.out.lt; have F1 : Hid (CW w2 (w.heap.size + 1) c) := F1.out.below hb F1.out.lt; have F2 : Hid (XW w2 (w.heap.size + 2) (⟨0, false, false⟩ : Cm)) := F2.out.below hb F2.out.lt; have FB : Hid (Below w.heap.size w w2) := FB.out.trans (hb.mono FB.out.size); clear hb; obtain ⟨x0_0, x0_1, x0_2, x0_3, x0_4, x0_5, x0_6, x0_7, x0_8, x0_9, x0_10, x0_11⟩ := F0.out; obtain ⟨x1_0, x1_1, x1_2, y1_0, y1_1, y1_2⟩ := F1.out; obtain ⟨x2_0, x2_1, x2_2, y2_0, y2_1, y2_2⟩ := F2.out; try dsimp only at x2_0 x2_1 x2_2))
        exact bodyPost_ret (v := .agg #[.int .i64 x.push, .bool x.brk, .bool x.opn]) (by simp [results, Try.results17, go_sem, x2_0, x2_1, x2_2]) rfl ⟨rfl, by repeat (first | exact FB.out | (refine Below.setCell ?_ (by simp <;> omega) _))⟩
      · have HE : Hid ((Hs.cmdFor h c f) = (⟨0, false, false⟩ : Cm)) := by unfold Hs.cmdFor; rw [if_neg (fun e => dz e.2.2)]; exact rfl
        rw [HE.out]
        have b0 : (c.door != 0) = true := by simpa using dz
        clear dz
        go_enter Try.func17, Try.ntmps17
        go_wp2_with (first | (go_at_call 28; refine (specCarFault_any h c _).mono ?_; rw [hk]; rintro e w1 ⟨rfl, hb⟩; have F0 : Hid (HAt w1 w.heap.size h) := F0.out.below hb F0.out.lt; have F1 : Hid (CW w1 (w.heap.size + 1) c) := F1.out.below hb F1.out.lt; have F2 : Hid (XW w1 (w.heap.size + 2) (⟨0, false, false⟩ : Cm)) := F2.out.below hb F2.out.lt; have FB : Hid (Below w.heap.size w w1) := FB.out.trans (hb.mono FB.out.size); clear hb; obtain ⟨x0_0, x0_1, x0_2, x0_3, x0_4, x0_5, x0_6, x0_7, x0_8, x0_9, x0_10, x0_11⟩ := F0.out; obtain ⟨x1_0, x1_1, x1_2, y1_0, y1_1, y1_2⟩ := F1.out; obtain ⟨x2_0, x2_1, x2_2, y2_0, y2_1, y2_2⟩ := F2.out; try dsimp only at x2_0 x2_1 x2_2) | (go_at_call 30; refine (l1In_any _ _ _ _).mono ?_; rintro e w' ⟨rfl, hw⟩; obtain rfl := hw.symm; clear hw))
        exact bodyPost_ret (v := .agg #[.int .i64 0, .bool false, .bool false]) (by simp [results, Try.results17, go_sem, x2_0, x2_1, x2_2]) rfl ⟨rfl, by repeat (first | exact FB.out | (refine Below.setCell ?_ (by simp <;> omega) _))⟩
  · have hn : (h.car c != 0) = true := by simpa using hk
    have HE : Hid ((Hs.cmdFor h c f) = (⟨0, false, false⟩ : Cm)) := by unfold Hs.cmdFor; rw [if_neg (fun e => hk e.1)]; exact rfl
    rw [HE.out]
    clear hk
    go_enter Try.func17, Try.ntmps17
    go_wp2_with (go_at_call 28; refine (specCarFault_any h c _).mono ?_; rintro e w1 ⟨rfl, hb⟩; have F0 : Hid (HAt w1 w.heap.size h) := F0.out.below hb F0.out.lt; have F1 : Hid (CW w1 (w.heap.size + 1) c) := F1.out.below hb F1.out.lt; have F2 : Hid (XW w1 (w.heap.size + 2) (⟨0, false, false⟩ : Cm)) := F2.out.below hb F2.out.lt; have FB : Hid (Below w.heap.size w w1) := FB.out.trans (hb.mono FB.out.size); clear hb; obtain ⟨x0_0, x0_1, x0_2, x0_3, x0_4, x0_5, x0_6, x0_7, x0_8, x0_9, x0_10, x0_11⟩ := F0.out; obtain ⟨x1_0, x1_1, x1_2, y1_0, y1_1, y1_2⟩ := F1.out; obtain ⟨x2_0, x2_1, x2_2, y2_0, y2_1, y2_2⟩ := F2.out; try dsimp only at x2_0 x2_1 x2_2)
    exact bodyPost_ret (v := .agg #[.int .i64 0, .bool false, .bool false]) (by simp [results, Try.results17, go_sem, x2_0, x2_1, x2_2]) rfl ⟨rfl, by repeat (first | exact FB.out | (refine Below.setCell ?_ (by simp <;> omega) _))⟩
/-- Does a car without a fault stand at a floor or refuge? -/
def Hs.reached (h : Hs) (c : Cs) (f : Int) : Bool := (h.car c == 0) && (inB f (-1) h.fl && Hs.reachB h c f)
set_option maxHeartbeats 2000000 in
theorem specReachedBy_any (h : Hs) (c : Cs) (f : Int) (w : World) :
    Calls Try.prog 20 #[.agg #[.int .i64 h.fl, .int .i64 h.gp, .int .i64 h.ln, .int .i64 h.rf, .int .i64 h.sp, .int .i64 h.pu, .int .i64 h.br, .int .i64 h.dr, .int .i64 h.lv, .int .i64 h.dO, .int .i64 h.ld, .int .i64 h.qu], .agg #[.int .i64 c.pos, .int .i64 c.vel, .int .i64 c.door], .int .i64 f] w fun e w' => e = .returned (.bool (Hs.reached h c f)) ∧ Below w.heap.size w w' := by
  have F0 : Hid (HAt ((w.alloc (.cells #[.int .i64 h.fl, .int .i64 h.gp, .int .i64 h.ln, .int .i64 h.rf, .int .i64 h.sp, .int .i64 h.pu, .int .i64 h.br, .int .i64 h.dr, .int .i64 h.lv, .int .i64 h.dO, .int .i64 h.ld, .int .i64 h.qu] 32)).alloc (.cells #[.int .i64 c.pos, .int .i64 c.vel, .int .i64 c.door] 28)) w.heap.size h) := (HAt.at_ w h _ _ (by simp)).alloc _
  have F1 : Hid (CW ((w.alloc (.cells #[.int .i64 h.fl, .int .i64 h.gp, .int .i64 h.ln, .int .i64 h.rf, .int .i64 h.sp, .int .i64 h.pu, .int .i64 h.br, .int .i64 h.dr, .int .i64 h.lv, .int .i64 h.dO, .int .i64 h.ld, .int .i64 h.qu] 32)).alloc (.cells #[.int .i64 c.pos, .int .i64 c.vel, .int .i64 c.door] 28)) (w.heap.size + 1) c) := CW.at_ (w.alloc (.cells #[.int .i64 h.fl, .int .i64 h.gp, .int .i64 h.ln, .int .i64 h.rf, .int .i64 h.sp, .int .i64 h.pu, .int .i64 h.br, .int .i64 h.dr, .int .i64 h.lv, .int .i64 h.dO, .int .i64 h.ld, .int .i64 h.qu] 32)) c _ _ (by simp)
  have FB : Hid (Below w.heap.size w ((w.alloc (.cells #[.int .i64 h.fl, .int .i64 h.gp, .int .i64 h.ln, .int .i64 h.rf, .int .i64 h.sp, .int .i64 h.pu, .int .i64 h.br, .int .i64 h.dr, .int .i64 h.lv, .int .i64 h.dO, .int .i64 h.ld, .int .i64 h.qu] 32)).alloc (.cells #[.int .i64 c.pos, .int .i64 c.vel, .int .i64 c.door] 28))) := (((Below.refl _ _).alloc (Nat.le_refl _) _).alloc (by simp <;> omega) _)
  cases hk : (h.car c == 0) with
  | false =>
    have HE : Hid (Hs.reached h c f = false) := by unfold Hs.reached; rw [hk]; exact rfl
    go_enter Try.func20, Try.ntmps20
    go_wp2_with (go_at_call 28; refine (specCarFault_any h c _).mono ?_; rintro e w1 ⟨rfl, hb⟩; have F0 : Hid (HAt w1 w.heap.size h) := F0.out.below hb F0.out.lt; have F1 : Hid (CW w1 (w.heap.size + 1) c) := F1.out.below hb F1.out.lt; have FB : Hid (Below w.heap.size w w1) := FB.out.trans (hb.mono FB.out.size); obtain ⟨x0_0, x0_1, x0_2, x0_3, x0_4, x0_5, x0_6, x0_7, x0_8, x0_9, x0_10, x0_11⟩ := F0.out; obtain ⟨x1_0, x1_1, x1_2, y1_0, y1_1, y1_2⟩ := F1.out; clear hb)
    go_ret
    exact ⟨by rw [HE.out]; exact rfl, FB.out⟩
  | true =>
    have hk0 : h.car c = 0 := by simpa using hk
    have k := Hs.car_zero hk0
    have o := k.ok
    have en := o.ends; have p1 := k.p1; have p2 := k.p2; have l1 := o.fl1; have l2 := o.fl2
    have HO : Hid h.Ok := o
    clear o k hk
    cases hi : inB f (-1) h.fl with
    | false =>
      have HE : Hid (Hs.reached h c f = false) := by unfold Hs.reached; rw [hi]; simp; exact trivial
      go_enter Try.func20, Try.ntmps20
      go_wp2_with (first | (go_at_call 28; refine (specCarFault_any h c _).mono ?_; rw [hk0]; rintro e w1 ⟨rfl, hb⟩; have F0 : Hid (HAt w1 w.heap.size h) := F0.out.below hb F0.out.lt; have F1 : Hid (CW w1 (w.heap.size + 1) c) := F1.out.below hb F1.out.lt; have FB : Hid (Below w.heap.size w w1) := FB.out.trans (hb.mono FB.out.size); obtain ⟨x0_0, x0_1, x0_2, x0_3, x0_4, x0_5, x0_6, x0_7, x0_8, x0_9, x0_10, x0_11⟩ := F0.out; obtain ⟨x1_0, x1_1, x1_2, y1_0, y1_1, y1_2⟩ := F1.out; clear hb) | (go_at_call 30; refine (l1In_any _ _ _ _).mono ?_; rintro e w' ⟨rfl, hw⟩; obtain rfl := hw.symm; clear hw))
      go_ret
      exact ⟨by rw [HE.out]; exact rfl, FB.out⟩
    | true =>
      have b1 : -1 ≤ f := (inB_iff.1 hi).1
      have b2 : f ≤ h.fl := (inB_iff.1 hi).2
      have HE : Hid (Hs.reached h c f = Hs.reachB h c f) := by unfold Hs.reached; rw [hi, hk0]; exact rfl
      go_enter Try.func20, Try.ntmps20
      go_wp2_with (first | (go_at_call 28; refine (specCarFault_any h c _).mono ?_; rw [hk0]; rintro e w1 ⟨rfl, hb⟩; have F0 : Hid (HAt w1 w.heap.size h) := F0.out.below hb F0.out.lt; have F1 : Hid (CW w1 (w.heap.size + 1) c) := F1.out.below hb F1.out.lt; have FB : Hid (Below w.heap.size w w1) := FB.out.trans (hb.mono FB.out.size); obtain ⟨x0_0, x0_1, x0_2, x0_3, x0_4, x0_5, x0_6, x0_7, x0_8, x0_9, x0_10, x0_11⟩ := F0.out; obtain ⟨x1_0, x1_1, x1_2, y1_0, y1_1, y1_2⟩ := F1.out; clear hb) | (go_at_call 30; refine (l1In_any _ _ _ _).mono ?_; rintro e w' ⟨rfl, hw⟩; obtain rfl := hw.symm; clear hw) | (go_at_call 44; refine (l4Reached_any h HO.out c f b1 (by omega) (by omega) (by omega) _).mono ?_; rintro e w2 ⟨rfl, hb⟩; have F0 : Hid (HAt w2 w.heap.size h) := F0.out.below hb F0.out.lt; have F1 : Hid (CW w2 (w.heap.size + 1) c) := F1.out.below hb F1.out.lt; have FB : Hid (Below w.heap.size w w2) := FB.out.trans (hb.mono FB.out.size); obtain ⟨x0_0, x0_1, x0_2, x0_3, x0_4, x0_5, x0_6, x0_7, x0_8, x0_9, x0_10, x0_11⟩ := F0.out; obtain ⟨x1_0, x1_1, x1_2, y1_0, y1_1, y1_2⟩ := F1.out; clear hb))
      go_ret
      exact ⟨by rw [HE.out]; exact rfl, FB.out⟩
end Go.Proofs.Ytmfkegkgibijpaa
