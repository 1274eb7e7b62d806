/-
  The law's cars, commands and shafts, turned into the program's; answers that are the same.
-/
import Derived.Test.YtnfdplfifpmhoaaGreatDoorCarS
namespace Go.Proofs.YtnfdplfifpmhoaaGreatDoor
open Go.RowKit Pl

set_option maxHeartbeats 1000000 in
theorem toCar_any (c : Cs) (w : World) :
    Calls Tryz.prog 76 #[.agg #[.int .i64 c.pos, .int .i64 c.vel, .int .i64 c.door]] w fun e w' => e = .returned (.agg #[.int .i64 c.pos, .int .i64 c.vel, .int .i64 c.door]) ∧ Below w.heap.size w w' := by
  go_enter Tryz.func76, Tryz.ntmps76
  go_wp2
  exact bodyPost_ret (v := .agg #[.int .i64 c.pos, .int .i64 c.vel, .int .i64 c.door]) (by simp [results, Tryz.results76, go_sem]) rfl ⟨rfl, by repeat (first | exact Below.refl _ _ | (refine Below.alloc ?_ ?_ _) | (refine Below.setCell ?_ ?_ _) | (simp; omega) | simp)⟩
theorem eqCar_same (c : Cs) (w : World) :
    Calls Tryz.prog 96 #[.agg #[.int .i64 c.pos, .int .i64 c.vel, .int .i64 c.door], .agg #[.int .i64 c.pos, .int .i64 c.vel, .int .i64 c.door]] w fun e w' => e = .returned (.bool true) ∧ Below w.heap.size w w' := by
  go_enter Tryz.func96, Tryz.ntmps96
  go_wp2
  go_ret
  exact ⟨rfl, by repeat (first | exact Below.refl _ _ | (refine Below.alloc ?_ ?_ _) | (simp; omega) | simp)⟩
set_option maxHeartbeats 1000000 in
theorem eqShaft_same (s : Sh) (w : World) :
    Calls Tryz.prog 68 #[.agg #[.int .i64 s.lo.pos, .int .i64 s.lo.vel, .int .i64 s.lo.door, .int .i64 s.up.pos, .int .i64 s.up.vel, .int .i64 s.up.door], .agg #[.int .i64 s.lo.pos, .int .i64 s.lo.vel, .int .i64 s.lo.door, .int .i64 s.up.pos, .int .i64 s.up.vel, .int .i64 s.up.door]] w fun e w' => e = .returned (.bool true) ∧ Below w.heap.size w w' := by
  have F0 : Hid (SW ((w.alloc (.cells #[.int .i64 s.lo.pos, .int .i64 s.lo.vel, .int .i64 s.lo.door, .int .i64 s.up.pos, .int .i64 s.up.vel, .int .i64 s.up.door] 49)).alloc (.cells #[.int .i64 s.lo.pos, .int .i64 s.lo.vel, .int .i64 s.lo.door, .int .i64 s.up.pos, .int .i64 s.up.vel, .int .i64 s.up.door] 49)) w.heap.size s) := (SW.at_ w s _ _ (by simp)).alloc _
  have F1 : Hid (SW ((w.alloc (.cells #[.int .i64 s.lo.pos, .int .i64 s.lo.vel, .int .i64 s.lo.door, .int .i64 s.up.pos, .int .i64 s.up.vel, .int .i64 s.up.door] 49)).alloc (.cells #[.int .i64 s.lo.pos, .int .i64 s.lo.vel, .int .i64 s.lo.door, .int .i64 s.up.pos, .int .i64 s.up.vel, .int .i64 s.up.door] 49)) (w.heap.size + 1) s) := SW.at_ (w.alloc (.cells #[.int .i64 s.lo.pos, .int .i64 s.lo.vel, .int .i64 s.lo.door, .int .i64 s.up.pos, .int .i64 s.up.vel, .int .i64 s.up.door] 49)) s _ _ (by simp)
  have FB : Hid (Below w.heap.size w ((w.alloc (.cells #[.int .i64 s.lo.pos, .int .i64 s.lo.vel, .int .i64 s.lo.door, .int .i64 s.up.pos, .int .i64 s.up.vel, .int .i64 s.up.door] 49)).alloc (.cells #[.int .i64 s.lo.pos, .int .i64 s.lo.vel, .int .i64 s.lo.door, .int .i64 s.up.pos, .int .i64 s.up.vel, .int .i64 s.up.door] 49))) := (((Below.refl _ _).alloc (Nat.le_refl _) _).alloc (by simp <;> omega) _)
  go_enter Tryz.func68, Tryz.ntmps68
  go_wp2_with (go_at_call 96; refine (eqCar_same _ _).mono ?_; rintro e w1 ⟨rfl, hb⟩; have F0 : Hid (SW w1 w.heap.size s) := F0.out.below hb F0.out.lt; have F1 : Hid (SW w1 (w.heap.size + 1) s) := F1.out.below hb F1.out.lt; have FB : Hid (Below w.heap.size w w1) := FB.out.trans (hb.mono FB.out.size); obtain ⟨x0_0, x0_1, x0_2, x0_3, x0_4, x0_5, y0_0, y0_1, y0_2, y0_3, y0_4, y0_5⟩ := F0.out; obtain ⟨x1_0, x1_1, x1_2, x1_3, x1_4, x1_5, y1_0, y1_1, y1_2, y1_3, y1_4, y1_5⟩ := F1.out; clear hb)
  go_ret
  exact ⟨rfl, FB.out⟩
set_option maxHeartbeats 2000000 in
theorem toShaft_any (s : Sh) (w : World) :
    Calls Tryz.prog 56 #[.agg #[.int .i64 s.lo.pos, .int .i64 s.lo.vel, .int .i64 s.lo.door, .int .i64 s.up.pos, .int .i64 s.up.vel, .int .i64 s.up.door]] w fun e w' => e = .returned (.agg #[.int .i64 s.lo.pos, .int .i64 s.lo.vel, .int .i64 s.lo.door, .int .i64 s.up.pos, .int .i64 s.up.vel, .int .i64 s.up.door]) ∧ Below w.heap.size w w' := by
  have F0 : Hid (SW (((w.alloc (.cells #[.int .i64 s.lo.pos, .int .i64 s.lo.vel, .int .i64 s.lo.door, .int .i64 s.up.pos, .int .i64 s.up.vel, .int .i64 s.up.door] 79)).alloc (.cells #[.int .i64 0, .int .i64 0, .int .i64 0, .int .i64 0, .int .i64 0, .int .i64 0] 49)).alloc (.cells #[.int .i64 0, .int .i64 0, .int .i64 0, .int .i64 0, .int .i64 0, .int .i64 0] 49)) w.heap.size s) := ((SW.at_ w s _ _ (by simp)).alloc _).alloc _
  have F1 : Hid (R6 (((w.alloc (.cells #[.int .i64 s.lo.pos, .int .i64 s.lo.vel, .int .i64 s.lo.door, .int .i64 s.up.pos, .int .i64 s.up.vel, .int .i64 s.up.door] 79)).alloc (.cells #[.int .i64 0, .int .i64 0, .int .i64 0, .int .i64 0, .int .i64 0, .int .i64 0] 49)).alloc (.cells #[.int .i64 0, .int .i64 0, .int .i64 0, .int .i64 0, .int .i64 0, .int .i64 0] 49)) (w.heap.size + 1)) := (R6.at_ (w.alloc (.cells #[.int .i64 s.lo.pos, .int .i64 s.lo.vel, .int .i64 s.lo.door, .int .i64 s.up.pos, .int .i64 s.up.vel, .int .i64 s.up.door] 79)) _ _ (by simp)).alloc _
  have F2 : Hid (R6 (((w.alloc (.cells #[.int .i64 s.lo.pos, .int .i64 s.lo.vel, .int .i64 s.lo.door, .int .i64 s.up.pos, .int .i64 s.up.vel, .int .i64 s.up.door] 79)).alloc (.cells #[.int .i64 0, .int .i64 0, .int .i64 0, .int .i64 0, .int .i64 0, .int .i64 0] 49)).alloc (.cells #[.int .i64 0, .int .i64 0, .int .i64 0, .int .i64 0, .int .i64 0, .int .i64 0] 49)) (w.heap.size + 2)) := R6.at_ ((w.alloc (.cells #[.int .i64 s.lo.pos, .int .i64 s.lo.vel, .int .i64 s.lo.door, .int .i64 s.up.pos, .int .i64 s.up.vel, .int .i64 s.up.door] 79)).alloc (.cells #[.int .i64 0, .int .i64 0, .int .i64 0, .int .i64 0, .int .i64 0, .int .i64 0] 49)) _ _ (by simp)
  have FB : Hid (Below w.heap.size w (((w.alloc (.cells #[.int .i64 s.lo.pos, .int .i64 s.lo.vel, .int .i64 s.lo.door, .int .i64 s.up.pos, .int .i64 s.up.vel, .int .i64 s.up.door] 79)).alloc (.cells #[.int .i64 0, .int .i64 0, .int .i64 0, .int .i64 0, .int .i64 0, .int .i64 0] 49)).alloc (.cells #[.int .i64 0, .int .i64 0, .int .i64 0, .int .i64 0, .int .i64 0, .int .i64 0] 49))) := ((((Below.refl _ _).alloc (Nat.le_refl _) _).alloc (by simp <;> omega) _).alloc (by simp <;> omega) _)
  go_enter Tryz.func56, Tryz.ntmps56
  go_wp2_with fail
  refine (toCar_any s.lo _).mono ?_
  rintro e w1 ⟨rfl, hb⟩
  have F0 : Hid (SW w1 w.heap.size s) := F0.out.below hb F0.out.lt; have F1 : Hid (R6 w1 (w.heap.size + 1)) := F1.out.below hb F1.out.lt; have F2 : Hid (R6 w1 (w.heap.size + 2)) := F2.out.below hb F2.out.lt; have FB : Hid (Below w.heap.size w w1) := FB.out.trans (hb.mono FB.out.size); obtain ⟨x0_0, x0_1, x0_2, x0_3, x0_4, x0_5, y0_0, y0_1, y0_2, y0_3, y0_4, y0_5⟩ := F0.out; obtain ⟨x1_0, x1_1, x1_2, x1_3, x1_4, x1_5, y1_0, y1_1, y1_2, y1_3, y1_4, y1_5⟩ := F1.out; obtain ⟨x2_0, x2_1, x2_2, x2_3, x2_4, x2_5, y2_0, y2_1, y2_2, y2_3, y2_4, y2_5⟩ := F2.out; clear hb
  have G0 : Hid (SW (putLo w1 (w.heap.size + 2) s.lo) w.heap.size s) := F0.out.putLo (by omega) _
  have G1 : Hid (R6 (putLo w1 (w.heap.size + 2) s.lo) (w.heap.size + 1)) := F1.out.putLo (by omega) _
  have G2 : Hid (SW (putLo w1 (w.heap.size + 2) s.lo) (w.heap.size + 2) ⟨s.lo, ⟨0, 0, 0⟩⟩) := F2.out.lo _
  have GB : Hid (Below w.heap.size w (putLo w1 (w.heap.size + 2) s.lo)) := below_putLo FB.out (by omega) _
  go_wp2_with fail
  change Calls _ _ _ (putLo w1 (w.heap.size + 2) s.lo) _
  refine (toCar_any s.up _).mono ?_
  rintro e w2 ⟨rfl, hb⟩
  clear x0_0 x0_1 x0_2 x0_3 x0_4 x0_5 y0_0 y0_1 y0_2 y0_3 y0_4 y0_5 x1_0 x1_1 x1_2 x1_3 x1_4 x1_5 y1_0 y1_1 y1_2 y1_3 y1_4 y1_5 x2_0 x2_1 x2_2 x2_3 x2_4 x2_5 y2_0 y2_1 y2_2 y2_3 y2_4 y2_5
  have F1 : Hid (R6 w2 (w.heap.size + 1)) := G1.out.below hb G1.out.lt
  have F2 : Hid (SW w2 (w.heap.size + 2) ⟨s.lo, ⟨0, 0, 0⟩⟩) := G2.out.below hb G2.out.lt
  have FB : Hid (Below w.heap.size w w2) := GB.out.trans (hb.mono GB.out.size)
  clear hb
  have H1 : Hid (R6 (putUp w2 (w.heap.size + 2) s.up) (w.heap.size + 1)) := F1.out.putUp (by omega) _
  have HB : Hid (Below w.heap.size w (putUp w2 (w.heap.size + 2) s.up)) := below_putUp FB.out (by omega) _
  obtain ⟨x1_0, x1_1, x1_2, x1_3, x1_4, x1_5, y1_0, y1_1, y1_2, y1_3, y1_4, y1_5⟩ := F1.out
  obtain ⟨x2_0, x2_1, x2_2, x2_3, x2_4, x2_5, y2_0, y2_1, y2_2, y2_3, y2_4, y2_5⟩ := F2.out
  dsimp only at x2_0 x2_1 x2_2 x2_3 x2_4 x2_5
  go_wp2_with fail
  clear x1_0 x1_1 x1_2 x1_3 x1_4 x1_5 y1_0 y1_1 y1_2 y1_3 y1_4 y1_5 x2_0 x2_1 x2_2 x2_3 x2_4 x2_5 y2_0 y2_1 y2_2 y2_3 y2_4 y2_5
  change bodyPost _ _ _ _ _ (put6 (putUp w2 (w.heap.size + 2) s.up) (w.heap.size + 1) s)
  obtain ⟨Wf, hWf⟩ : ∃ Wf, put6 (putUp w2 (w.heap.size + 2) s.up) (w.heap.size + 1) s = Wf := ⟨_, rfl⟩
  have HRf : SW Wf (w.heap.size + 1) s := hWf ▸ H1.out.put _
  have HBf : Below w.heap.size w Wf := hWf ▸ below_put6 HB.out (by omega) _
  rw [hWf]
  clear hWf
  obtain ⟨d0, d1, d2, d3, d4, d5, e0, e1, e2, e3, e4, e5⟩ := HRf
  exact bodyPost_ret (v := .agg #[.int .i64 s.lo.pos, .int .i64 s.lo.vel, .int .i64 s.lo.door, .int .i64 s.up.pos, .int .i64 s.up.vel, .int .i64 s.up.door]) (by simp [results, Tryz.results56, go_sem, d0, d1, d2, d3, d4, d5]) rfl ⟨rfl, HBf⟩
theorem R4.next {W : World} {b : Nat} {h : Hs} (_ : HAt W b h) (T : TypeId) : R4 (W.alloc (.cells #[.int .i64 0, .int .i64 0, .int .i64 0, .int .i64 0] T)) W.heap.size := R4.at_ W T _ rfl
theorem R2.next {W : World} {b : Nat} {h : Hs} (_ : HAt W b h) (T : TypeId) : R2 (W.alloc (.cells #[.int .i64 0, .int .i64 0] T)) W.heap.size := R2.at_ W T _ rfl
end Go.Proofs.YtnfdplfifpmhoaaGreatDoor
