/-
  The model's fresh shaft, and where a car stands.
-/
import Derived.Test.YtgedakdbcjppnaaCarB
import Derived.Test.YtgedakdbcjppnaaHouseP
namespace Go.Proofs.Ytgedakdbcjppnaa
open Go.RowKit Pl
set_option linter.unusedSimpArgs false

/-- A code and a shaft are answered, and nothing that was there has turned. -/
def isShaft (w : World) (k : Int) (s : Sh) (e : Ending) (w' : World) : Prop :=
  e = .returned (.agg #[.int .i64 k, .int .i64 s.lo.pos, .int .i64 s.lo.vel, .int .i64 s.lo.door, .int .i64 s.up.pos, .int .i64 s.up.vel, .int .i64 s.up.door]) ∧ Below w.heap.size w w'

set_option maxHeartbeats 2000000 in
theorem specFreshShaft_no (h : Hs) (hf : h.fault ≠ 0) (w : World) :
    Calls Try.prog 12 #[.agg #[.int .i64 h.fl, .int .i64 h.gp, .int .i64 h.ln, .int .i64 h.rf, .int .i64 h.sp, .int .i64 h.pu, .int .i64 h.br, .int .i64 h.dr, .int .i64 h.lv, .int .i64 h.dO, .int .i64 h.ld, .int .i64 h.qu]] w (isShaft w h.fault ⟨⟨0, 0, 0⟩, ⟨0, 0, 0⟩⟩) := by
  have hn : (h.fault != 0) = true := by simpa using hf
  clear hf
  have F0 : Hid (HAt ((w.alloc (.cells #[.int .i64 h.fl, .int .i64 h.gp, .int .i64 h.ln, .int .i64 h.rf, .int .i64 h.sp, .int .i64 h.pu, .int .i64 h.br, .int .i64 h.dr, .int .i64 h.lv, .int .i64 h.dO, .int .i64 h.ld, .int .i64 h.qu] 24)).alloc (.cells #[.int .i64 0, .int .i64 0, .int .i64 0, .int .i64 0, .int .i64 0, .int .i64 0, .int .i64 0] 45)) w.heap.size h) := (HAt.at_ w h _ _ (by simp)).alloc _
  have F1 : Hid (R7 ((w.alloc (.cells #[.int .i64 h.fl, .int .i64 h.gp, .int .i64 h.ln, .int .i64 h.rf, .int .i64 h.sp, .int .i64 h.pu, .int .i64 h.br, .int .i64 h.dr, .int .i64 h.lv, .int .i64 h.dO, .int .i64 h.ld, .int .i64 h.qu] 24)).alloc (.cells #[.int .i64 0, .int .i64 0, .int .i64 0, .int .i64 0, .int .i64 0, .int .i64 0, .int .i64 0] 45)) (w.heap.size + 1)) := R7.at_ (w.alloc (.cells #[.int .i64 h.fl, .int .i64 h.gp, .int .i64 h.ln, .int .i64 h.rf, .int .i64 h.sp, .int .i64 h.pu, .int .i64 h.br, .int .i64 h.dr, .int .i64 h.lv, .int .i64 h.dO, .int .i64 h.ld, .int .i64 h.qu] 24)) _ _ (by simp)
  have FB : Hid (Below w.heap.size w ((w.alloc (.cells #[.int .i64 h.fl, .int .i64 h.gp, .int .i64 h.ln, .int .i64 h.rf, .int .i64 h.sp, .int .i64 h.pu, .int .i64 h.br, .int .i64 h.dr, .int .i64 h.lv, .int .i64 h.dO, .int .i64 h.ld, .int .i64 h.qu] 24)).alloc (.cells #[.int .i64 0, .int .i64 0, .int .i64 0, .int .i64 0, .int .i64 0, .int .i64 0, .int .i64 0] 45))) := (((Below.refl _ _).alloc (Nat.le_refl _) _).alloc (by simp <;> omega) _)
  go_enter Try.func12, Try.ntmps12
  go_wp2_with (go_at_call 10; refine (specFault_any h _).mono ?_; rintro e w1 ⟨rfl, hb⟩; have F0 : Hid (HAt w1 w.heap.size h) := F0.out.below hb F0.out.lt; have F1 : Hid (R7 w1 (w.heap.size + 1)) := F1.out.below hb F1.out.lt; have FB : Hid (Below w.heap.size w w1) := FB.out.trans (hb.mono FB.out.size); obtain ⟨x0_0, x0_1, x0_2, x0_3, x0_4, x0_5, x0_6, x0_7, x0_8, x0_9, x0_10, x0_11⟩ := F0.out; obtain ⟨x1_0, x1_1, x1_2, x1_3, x1_4, x1_5, x1_6, y1_0, y1_1, y1_2, y1_3, y1_4, y1_5, y1_6⟩ := F1.out; clear hb)
  change bodyPost _ _ _ _ _ (put7 w1 (w.heap.size + 1) h.fault (⟨⟨0, 0, 0⟩, ⟨0, 0, 0⟩⟩ : Sh))
  obtain ⟨Wf, hWf⟩ : ∃ Wf, put7 w1 (w.heap.size + 1) h.fault (⟨⟨0, 0, 0⟩, ⟨0, 0, 0⟩⟩ : Sh) = Wf := ⟨_, rfl⟩
  have HRf : V7 Wf (w.heap.size + 1) h.fault (⟨⟨0, 0, 0⟩, ⟨0, 0, 0⟩⟩ : Sh) := hWf ▸ F1.out.put _ _
  have HBf : Below w.heap.size w Wf := hWf ▸ below_put7 FB.out (by omega) _ _
  rw [hWf]
  clear hWf
  obtain ⟨d0, d1, d2, d3, d4, d5, d6⟩ := HRf
  dsimp only at d0 d1 d2 d3 d4 d5 d6
  exact bodyPost_ret (v := .agg #[.int .i64 h.fault, .int .i64 0, .int .i64 0, .int .i64 0, .int .i64 0, .int .i64 0, .int .i64 0]) (by simp [results, Try.results12, go_sem, d0, d1, d2, d3, d4, d5, d6]) rfl ⟨rfl, HBf⟩
set_option maxHeartbeats 2000000 in
theorem specFreshShaft_yes (h : Hs) (hf : h.fault = 0) (w : World) :
    Calls Try.prog 12 #[.agg #[.int .i64 h.fl, .int .i64 h.gp, .int .i64 h.ln, .int .i64 h.rf, .int .i64 h.sp, .int .i64 h.pu, .int .i64 h.br, .int .i64 h.dr, .int .i64 h.lv, .int .i64 h.dO, .int .i64 h.ld, .int .i64 h.qu]] w (isShaft w 0 ⟨⟨0, 0, 0⟩, ⟨h.level (h.fl - 1), 0, 0⟩⟩) := by
  have o := Hs.ok_of (Hs.fault_zero hf).1
  have f1 := o.fl1; have f2 := o.fl2
  have HO : Hid h.Ok := o
  clear o
  have F0 : Hid (HAt ((w.alloc (.cells #[.int .i64 h.fl, .int .i64 h.gp, .int .i64 h.ln, .int .i64 h.rf, .int .i64 h.sp, .int .i64 h.pu, .int .i64 h.br, .int .i64 h.dr, .int .i64 h.lv, .int .i64 h.dO, .int .i64 h.ld, .int .i64 h.qu] 24)).alloc (.cells #[.int .i64 0, .int .i64 0, .int .i64 0, .int .i64 0, .int .i64 0, .int .i64 0, .int .i64 0] 45)) w.heap.size h) := (HAt.at_ w h _ _ (by simp)).alloc _
  have F1 : Hid (R7 ((w.alloc (.cells #[.int .i64 h.fl, .int .i64 h.gp, .int .i64 h.ln, .int .i64 h.rf, .int .i64 h.sp, .int .i64 h.pu, .int .i64 h.br, .int .i64 h.dr, .int .i64 h.lv, .int .i64 h.dO, .int .i64 h.ld, .int .i64 h.qu] 24)).alloc (.cells #[.int .i64 0, .int .i64 0, .int .i64 0, .int .i64 0, .int .i64 0, .int .i64 0, .int .i64 0] 45)) (w.heap.size + 1)) := R7.at_ (w.alloc (.cells #[.int .i64 h.fl, .int .i64 h.gp, .int .i64 h.ln, .int .i64 h.rf, .int .i64 h.sp, .int .i64 h.pu, .int .i64 h.br, .int .i64 h.dr, .int .i64 h.lv, .int .i64 h.dO, .int .i64 h.ld, .int .i64 h.qu] 24)) _ _ (by simp)
  have FB : Hid (Below w.heap.size w ((w.alloc (.cells #[.int .i64 h.fl, .int .i64 h.gp, .int .i64 h.ln, .int .i64 h.rf, .int .i64 h.sp, .int .i64 h.pu, .int .i64 h.br, .int .i64 h.dr, .int .i64 h.lv, .int .i64 h.dO, .int .i64 h.ld, .int .i64 h.qu] 24)).alloc (.cells #[.int .i64 0, .int .i64 0, .int .i64 0, .int .i64 0, .int .i64 0, .int .i64 0, .int .i64 0] 45))) := (((Below.refl _ _).alloc (Nat.le_refl _) _).alloc (by simp <;> omega) _)
  go_enter Try.func12, Try.ntmps12
  go_wp2_with (first | (go_at_call 10; refine (specFault_any h _).mono ?_; rw [hf]; rintro e w1 ⟨rfl, hb⟩; have F0 : Hid (HAt w1 w.heap.size h) := F0.out.below hb F0.out.lt; have F1 : Hid (R7 w1 (w.heap.size + 1)) := F1.out.below hb F1.out.lt; have FB : Hid (Below w.heap.size w w1) := FB.out.trans (hb.mono FB.out.size); obtain ⟨x0_0, x0_1, x0_2, x0_3, x0_4, x0_5, x0_6, x0_7, x0_8, x0_9, x0_10, x0_11⟩ := F0.out; obtain ⟨x1_0, x1_1, x1_2, x1_3, x1_4, x1_5, x1_6, y1_0, y1_1, y1_2, y1_3, y1_4, y1_5, y1_6⟩ := F1.out; clear hb) | (go_at_call 23; refine (specLevel_below h HO.out _ (by omega) (by omega) _).mono ?_; rintro e w2 ⟨rfl, hb⟩; have F0 : Hid (HAt w2 w.heap.size h) := F0.out.below hb F0.out.lt; have F1 : Hid (R7 w2 (w.heap.size + 1)) := F1.out.below hb F1.out.lt; have FB : Hid (Below w.heap.size w w2) := FB.out.trans (hb.mono FB.out.size); obtain ⟨x0_0, x0_1, x0_2, x0_3, x0_4, x0_5, x0_6, x0_7, x0_8, x0_9, x0_10, x0_11⟩ := F0.out; obtain ⟨x1_0, x1_1, x1_2, x1_3, x1_4, x1_5, x1_6, y1_0, y1_1, y1_2, y1_3, y1_4, y1_5, y1_6⟩ := F1.out; clear hb))
  change bodyPost _ _ _ _ _ (put7 w2 (w.heap.size + 1) 0 (⟨⟨0, 0, 0⟩, ⟨h.level (h.fl - 1), 0, 0⟩⟩ : Sh))
  obtain ⟨Wf, hWf⟩ : ∃ Wf, put7 w2 (w.heap.size + 1) 0 (⟨⟨0, 0, 0⟩, ⟨h.level (h.fl - 1), 0, 0⟩⟩ : Sh) = Wf := ⟨_, rfl⟩
  have HRf : V7 Wf (w.heap.size + 1) 0 (⟨⟨0, 0, 0⟩, ⟨h.level (h.fl - 1), 0, 0⟩⟩ : Sh) := hWf ▸ F1.out.put _ _
  have HBf : Below w.heap.size w Wf := hWf ▸ below_put7 FB.out (by omega) _ _
  rw [hWf]
  clear hWf
  obtain ⟨d0, d1, d2, d3, d4, d5, d6⟩ := HRf
  dsimp only at d0 d1 d2 d3 d4 d5 d6
  exact bodyPost_ret (v := .agg #[.int .i64 0, .int .i64 0, .int .i64 0, .int .i64 0, .int .i64 (h.level (h.fl - 1)), .int .i64 0, .int .i64 0]) (by simp [results, Try.results12, go_sem, d0, d1, d2, d3, d4, d5, d6]) rfl ⟨rfl, HBf⟩

/-- Does a car stand at a floor? -/
def Hs.near (h : Hs) (c : Cs) (f : Int) : Bool := decide (absI (c.pos - h.level f) ≤ h.lv)
def Hs.stands (h : Hs) (c : Cs) (f : Int) : Bool := (h.car c == 0) && (inB f 0 (h.fl - 1) && ((c.vel == 0) && Hs.near h c f))

end Go.Proofs.Ytgedakdbcjppnaa
