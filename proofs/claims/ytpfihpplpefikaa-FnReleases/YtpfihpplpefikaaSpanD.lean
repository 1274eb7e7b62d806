/-
  The model's spans of the floors at which two cars are.
-/
import Derived.Test.YtpfihpplpefikaaSpanC
namespace Go.Proofs.Ytpfihpplpefikaa
open Go.RowKit Pl
set_option linter.unusedSimpArgs false
set_option linter.unusedVariables false

set_option maxRecDepth 20000 in
set_option maxHeartbeats 8000000 in
theorem l6Sensed_any (h : Hs) (o : h.Ok) (s : Sh) (w : World) :
    Calls Try.prog 33 #[.agg #[.int .i64 h.fl, .int .i64 h.gp, .int .i64 h.ln, .int .i64 h.rf, .int .i64 h.sp, .int .i64 h.pu, .int .i64 h.br, .int .i64 h.dr, .int .i64 h.lv, .int .i64 h.dO, .int .i64 h.ld, .int .i64 h.qu], .agg #[.int .i64 s.lo.pos, .int .i64 s.lo.vel, .int .i64 s.lo.door, .int .i64 s.up.pos, .int .i64 s.up.vel, .int .i64 s.up.door]] w fun e w' => e = .returned (.agg #[.int .i64 (Hs.sensA h s), .int .i64 (Hs.sensA h s), .int .i64 (Hs.sensB h s), .int .i64 (Hs.sensB h s)]) ∧ Below w.heap.size w w' := by
  have f1 := o.fl1; have f2 := o.fl2
  have a1 := Hs.at6_bd o s.lo.pos; have a2 := Hs.at6_bd o s.up.pos
  have HO : Hid h.Ok := o
  clear o
  have F0 : Hid (HAt (((w.alloc (.cells #[.int .i64 h.fl, .int .i64 h.gp, .int .i64 h.ln, .int .i64 h.rf, .int .i64 h.sp, .int .i64 h.pu, .int .i64 h.br, .int .i64 h.dr, .int .i64 h.lv, .int .i64 h.dO, .int .i64 h.ld, .int .i64 h.qu] 25)).alloc (.cells #[.int .i64 s.lo.pos, .int .i64 s.lo.vel, .int .i64 s.lo.door, .int .i64 s.up.pos, .int .i64 s.up.vel, .int .i64 s.up.door] 40)).alloc (.cells #[.int .i64 0, .int .i64 0, .int .i64 0, .int .i64 0] 29)) w.heap.size h) := ((HAt.at_ w h _ _ (by simp)).alloc _).alloc _
  have F1 : Hid (SW (((w.alloc (.cells #[.int .i64 h.fl, .int .i64 h.gp, .int .i64 h.ln, .int .i64 h.rf, .int .i64 h.sp, .int .i64 h.pu, .int .i64 h.br, .int .i64 h.dr, .int .i64 h.lv, .int .i64 h.dO, .int .i64 h.ld, .int .i64 h.qu] 25)).alloc (.cells #[.int .i64 s.lo.pos, .int .i64 s.lo.vel, .int .i64 s.lo.door, .int .i64 s.up.pos, .int .i64 s.up.vel, .int .i64 s.up.door] 40)).alloc (.cells #[.int .i64 0, .int .i64 0, .int .i64 0, .int .i64 0] 29)) (w.heap.size + 1) s) := (SW.at_ (w.alloc (.cells #[.int .i64 h.fl, .int .i64 h.gp, .int .i64 h.ln, .int .i64 h.rf, .int .i64 h.sp, .int .i64 h.pu, .int .i64 h.br, .int .i64 h.dr, .int .i64 h.lv, .int .i64 h.dO, .int .i64 h.ld, .int .i64 h.qu] 25)) s _ _ (by simp)).alloc _
  have F2 : Hid (R4 (((w.alloc (.cells #[.int .i64 h.fl, .int .i64 h.gp, .int .i64 h.ln, .int .i64 h.rf, .int .i64 h.sp, .int .i64 h.pu, .int .i64 h.br, .int .i64 h.dr, .int .i64 h.lv, .int .i64 h.dO, .int .i64 h.ld, .int .i64 h.qu] 25)).alloc (.cells #[.int .i64 s.lo.pos, .int .i64 s.lo.vel, .int .i64 s.lo.door, .int .i64 s.up.pos, .int .i64 s.up.vel, .int .i64 s.up.door] 40)).alloc (.cells #[.int .i64 0, .int .i64 0, .int .i64 0, .int .i64 0] 29)) (w.heap.size + 2)) := R4.at_ ((w.alloc (.cells #[.int .i64 h.fl, .int .i64 h.gp, .int .i64 h.ln, .int .i64 h.rf, .int .i64 h.sp, .int .i64 h.pu, .int .i64 h.br, .int .i64 h.dr, .int .i64 h.lv, .int .i64 h.dO, .int .i64 h.ld, .int .i64 h.qu] 25)).alloc (.cells #[.int .i64 s.lo.pos, .int .i64 s.lo.vel, .int .i64 s.lo.door, .int .i64 s.up.pos, .int .i64 s.up.vel, .int .i64 s.up.door] 40)) _ _ (by simp)
  have FB : Hid (Below w.heap.size w (((w.alloc (.cells #[.int .i64 h.fl, .int .i64 h.gp, .int .i64 h.ln, .int .i64 h.rf, .int .i64 h.sp, .int .i64 h.pu, .int .i64 h.br, .int .i64 h.dr, .int .i64 h.lv, .int .i64 h.dO, .int .i64 h.ld, .int .i64 h.qu] 25)).alloc (.cells #[.int .i64 s.lo.pos, .int .i64 s.lo.vel, .int .i64 s.lo.door, .int .i64 s.up.pos, .int .i64 s.up.vel, .int .i64 s.up.door] 40)).alloc (.cells #[.int .i64 0, .int .i64 0, .int .i64 0, .int .i64 0] 29))) := ((((Below.refl _ _).alloc (Nat.le_refl _) _).alloc (by simp <;> omega) _).alloc (by simp <;> omega) _)
  by_cases c1 : (Hs.at6 h s.up.pos) ≤ (Hs.at6 h s.lo.pos)
  · by_cases c2 : h.fl < (Hs.at6 h s.lo.pos) + 1
    · have q1 : Hs.sensA h s = ((Hs.at6 h s.lo.pos) - 1) := by unfold Hs.sensA; simp [c1, c2] <;> omega
      have q2 : Hs.sensB h s = ((Hs.at6 h s.lo.pos) + 1 - 1) := by unfold Hs.sensB; simp [c1, c2] <;> omega
      rw [q1, q2]
      clear q1 q2
      go_enter Try.func33, Try.ntmps33
      go_wp2_with (go_at_call 58; refine (l6At_any h HO.out _ _).mono ?_; rintro e w1 ⟨rfl, hb⟩; have F0 : Hid (HAt w1 w.heap.size h) := F0.out.below hb F0.out.lt; have F1 : Hid (SW w1 (w.heap.size + 1) s) := F1.out.below hb F1.out.lt; have F2 : Hid (R4 w1 (w.heap.size + 2)) := F2.out.below hb F2.out.lt; have FB : Hid (Below w.heap.size w w1) := FB.out.trans (hb.mono FB.out.size); obtain ⟨x0_0, x0_1, x0_2, x0_3, x0_4, x0_5, x0_6, x0_7, x0_8, x0_9, x0_10, x0_11⟩ := F0.out; obtain ⟨x1_0, x1_1, x1_2, x1_3, x1_4, x1_5, y1_0, y1_1, y1_2, y1_3, y1_4, y1_5⟩ := F1.out; obtain ⟨x2_0, x2_1, x2_2, x2_3, y2_0, y2_1, y2_2, y2_3⟩ := F2.out; clear hb)
      exact bodyPost_ret (v := .agg #[.int .i64 ((Hs.at6 h s.lo.pos) - 1), .int .i64 ((Hs.at6 h s.lo.pos) - 1), .int .i64 ((Hs.at6 h s.lo.pos) + 1 - 1), .int .i64 ((Hs.at6 h s.lo.pos) + 1 - 1)]) (by simp [results, Try.results33, go_sem, x2_0, x2_1, x2_2, x2_3]) rfl ⟨rfl, by repeat (first | exact FB.out | (refine Below.setCell ?_ (by simp <;> omega) _))⟩
    · have q1 : Hs.sensA h s = (Hs.at6 h s.lo.pos) := by unfold Hs.sensA; simp [c1, c2] <;> omega
      have q2 : Hs.sensB h s = ((Hs.at6 h s.lo.pos) + 1) := by unfold Hs.sensB; simp [c1, c2] <;> omega
      rw [q1, q2]
      clear q1 q2
      go_enter Try.func33, Try.ntmps33
      go_wp2_with (go_at_call 58; refine (l6At_any h HO.out _ _).mono ?_; rintro e w1 ⟨rfl, hb⟩; have F0 : Hid (HAt w1 w.heap.size h) := F0.out.below hb F0.out.lt; have F1 : Hid (SW w1 (w.heap.size + 1) s) := F1.out.below hb F1.out.lt; have F2 : Hid (R4 w1 (w.heap.size + 2)) := F2.out.below hb F2.out.lt; have FB : Hid (Below w.heap.size w w1) := FB.out.trans (hb.mono FB.out.size); obtain ⟨x0_0, x0_1, x0_2, x0_3, x0_4, x0_5, x0_6, x0_7, x0_8, x0_9, x0_10, x0_11⟩ := F0.out; obtain ⟨x1_0, x1_1, x1_2, x1_3, x1_4, x1_5, y1_0, y1_1, y1_2, y1_3, y1_4, y1_5⟩ := F1.out; obtain ⟨x2_0, x2_1, x2_2, x2_3, y2_0, y2_1, y2_2, y2_3⟩ := F2.out; clear hb)
      exact bodyPost_ret (v := .agg #[.int .i64 (Hs.at6 h s.lo.pos), .int .i64 (Hs.at6 h s.lo.pos), .int .i64 ((Hs.at6 h s.lo.pos) + 1), .int .i64 ((Hs.at6 h s.lo.pos) + 1)]) (by simp [results, Try.results33, go_sem, x2_0, x2_1, x2_2, x2_3]) rfl ⟨rfl, by repeat (first | exact FB.out | (refine Below.setCell ?_ (by simp <;> omega) _))⟩
  · by_cases c2 : h.fl < (Hs.at6 h s.up.pos)
    · exfalso; omega
    · have q1 : Hs.sensA h s = (Hs.at6 h s.lo.pos) := by unfold Hs.sensA; simp [c1, c2] <;> omega
      have q2 : Hs.sensB h s = (Hs.at6 h s.up.pos) := by unfold Hs.sensB; simp [c1, c2] <;> omega
      rw [q1, q2]
      clear q1 q2
      go_enter Try.func33, Try.ntmps33
      go_wp2_with (go_at_call 58; refine (l6At_any h HO.out _ _).mono ?_; rintro e w1 ⟨rfl, hb⟩; have F0 : Hid (HAt w1 w.heap.size h) := F0.out.below hb F0.out.lt; have F1 : Hid (SW w1 (w.heap.size + 1) s) := F1.out.below hb F1.out.lt; have F2 : Hid (R4 w1 (w.heap.size + 2)) := F2.out.below hb F2.out.lt; have FB : Hid (Below w.heap.size w w1) := FB.out.trans (hb.mono FB.out.size); obtain ⟨x0_0, x0_1, x0_2, x0_3, x0_4, x0_5, x0_6, x0_7, x0_8, x0_9, x0_10, x0_11⟩ := F0.out; obtain ⟨x1_0, x1_1, x1_2, x1_3, x1_4, x1_5, y1_0, y1_1, y1_2, y1_3, y1_4, y1_5⟩ := F1.out; obtain ⟨x2_0, x2_1, x2_2, x2_3, y2_0, y2_1, y2_2, y2_3⟩ := F2.out; clear hb)
      exact bodyPost_ret (v := .agg #[.int .i64 (Hs.at6 h s.lo.pos), .int .i64 (Hs.at6 h s.lo.pos), .int .i64 (Hs.at6 h s.up.pos), .int .i64 (Hs.at6 h s.up.pos)]) (by simp [results, Try.results33, go_sem, x2_0, x2_1, x2_2, x2_3]) rfl ⟨rfl, by repeat (first | exact FB.out | (refine Below.setCell ?_ (by simp <;> omega) _))⟩
def Hs.sensV (h : Hs) (s : Sh) : Ss := if h.shaft s = 0 then Hs.sensed h s else ⟨⟨0, 0⟩, ⟨0, 0⟩⟩
end Go.Proofs.Ytpfihpplpefikaa
