/-
  The law's spans, turned into the program's; answers that are the same.
-/
import Derived.Test.YtnfdplfifpmhoaaGreatDoorCellsN
import Derived.Test.YtnfdplfifpmhoaaGreatDoorCellsS
import Derived.Test.YtnfdplfifpmhoaaGreatDoorFnd
namespace Go.Proofs.YtnfdplfifpmhoaaGreatDoor
open Go.RowKit Pl
set_option linter.unusedSimpArgs false
set_option linter.unusedVariables false

set_option maxRecDepth 20000 in
set_option maxHeartbeats 8000000 in
theorem toSpan_any (x : Sp) (w : World) :
    Calls Tryz.prog 77 #[.agg #[.int .i64 x.lo, .int .i64 x.hi]] w fun e w' => e = .returned (.agg #[.int .i64 x.lo, .int .i64 x.hi]) ∧ Below w.heap.size w w' := by
  go_enter Tryz.func77, Tryz.ntmps77
  go_wp2
  exact bodyPost_ret (v := .agg #[.int .i64 x.lo, .int .i64 x.hi]) (by simp [results, Tryz.results77, go_sem]) rfl ⟨rfl, by repeat (first | exact Below.refl _ _ | (refine Below.alloc ?_ ?_ _) | (refine Below.setCell ?_ ?_ _) | (simp; omega) | simp)⟩
set_option maxRecDepth 20000 in
set_option maxHeartbeats 8000000 in
theorem toSpans_any (x : Ss) (w : World) :
    Calls Tryz.prog 57 #[.agg #[.int .i64 x.l.lo, .int .i64 x.l.hi, .int .i64 x.u.lo, .int .i64 x.u.hi]] w fun e w' => e = .returned (.agg #[.int .i64 x.l.lo, .int .i64 x.l.hi, .int .i64 x.u.lo, .int .i64 x.u.hi]) ∧ Below w.heap.size w w' := by
  have F0 : Hid (NW (((w.alloc (.cells #[.int .i64 x.l.lo, .int .i64 x.l.hi, .int .i64 x.u.lo, .int .i64 x.u.hi] 82)).alloc (.cells #[.int .i64 0, .int .i64 0, .int .i64 0, .int .i64 0] 53)).alloc (.cells #[.int .i64 0, .int .i64 0, .int .i64 0, .int .i64 0] 53)) w.heap.size x) := ((NW.at_ w x _ _ (by simp)).alloc _).alloc _
  have F1 : Hid (NW (((w.alloc (.cells #[.int .i64 x.l.lo, .int .i64 x.l.hi, .int .i64 x.u.lo, .int .i64 x.u.hi] 82)).alloc (.cells #[.int .i64 0, .int .i64 0, .int .i64 0, .int .i64 0] 53)).alloc (.cells #[.int .i64 0, .int .i64 0, .int .i64 0, .int .i64 0] 53)) (w.heap.size + 1) (⟨⟨0, 0⟩, ⟨0, 0⟩⟩ : Ss)) := (NW.at_ _ (⟨⟨0, 0⟩, ⟨0, 0⟩⟩ : Ss) _ _ (by simp)).alloc _
  have F2 : Hid (NW (((w.alloc (.cells #[.int .i64 x.l.lo, .int .i64 x.l.hi, .int .i64 x.u.lo, .int .i64 x.u.hi] 82)).alloc (.cells #[.int .i64 0, .int .i64 0, .int .i64 0, .int .i64 0] 53)).alloc (.cells #[.int .i64 0, .int .i64 0, .int .i64 0, .int .i64 0] 53)) (w.heap.size + 2) (⟨⟨0, 0⟩, ⟨0, 0⟩⟩ : Ss)) := NW.at_ _ (⟨⟨0, 0⟩, ⟨0, 0⟩⟩ : Ss) _ _ (by simp)
  have FB : Hid (Below w.heap.size w (((w.alloc (.cells #[.int .i64 x.l.lo, .int .i64 x.l.hi, .int .i64 x.u.lo, .int .i64 x.u.hi] 82)).alloc (.cells #[.int .i64 0, .int .i64 0, .int .i64 0, .int .i64 0] 53)).alloc (.cells #[.int .i64 0, .int .i64 0, .int .i64 0, .int .i64 0] 53))) := (((Below.refl _ _).alloc (Nat.le_refl _) _).alloc (by simp) _).alloc (by simp; omega) _
  go_enter Tryz.func57, Tryz.ntmps57
  go_upto_region 3 with (go_at_call 77; refine (toSpan_any x.l _).mono ?_; rintro e w1 ⟨rfl, hb⟩; have F0 : Hid (NW w1 w.heap.size x) := F0.out.below hb F0.out.lt; have F1 : Hid (NW w1 (w.heap.size + 1) (⟨⟨0, 0⟩, ⟨0, 0⟩⟩ : Ss)) := F1.out.below hb F1.out.lt; have F2 : Hid (NW w1 (w.heap.size + 2) (⟨⟨0, 0⟩, ⟨0, 0⟩⟩ : Ss)) := F2.out.below hb F2.out.lt; have FB : Hid (Below w.heap.size w w1) := FB.out.trans (hb.mono FB.out.size); clear hb; obtain ⟨x0_0, x0_1, x0_2, x0_3, y0_0, y0_1, y0_2, y0_3⟩ := F0.out; obtain ⟨x1_0, x1_1, x1_2, x1_3, y1_0, y1_1, y1_2, y1_3⟩ := F1.out; obtain ⟨x2_0, x2_1, x2_2, x2_3, y2_0, y2_1, y2_2, y2_3⟩ := F2.out; try dsimp only at x1_0 x1_1 x1_2 x1_3 x2_0 x2_1 x2_2 x2_3)
  clear x0_0 x0_1 x0_2 x0_3 y0_0 y0_1 y0_2 y0_3 x1_0 x1_1 x1_2 x1_3 y1_0 y1_1 y1_2 y1_3 x2_0 x2_1 x2_2 x2_3 y2_0 y2_1 y2_2 y2_3
  obtain ⟨W1, hw_⟩ : ∃ W1, W1 = (w1.setCell ⟨w.heap.size + 2, 0, none⟩ (.int .i64 x.l.lo)).setCell ⟨w.heap.size + 2, 1, none⟩ (.int .i64 x.l.hi) := ⟨_, rfl⟩
  rw [← hw_]
  have F0 : Hid (NW W1 w.heap.size x) := by rw [hw_]; exact (F0.out.other (by omega)).other (by omega)
  have F1 : Hid (NW W1 (w.heap.size + 1) (⟨⟨0, 0⟩, ⟨0, 0⟩⟩ : Ss)) := by rw [hw_]; exact (F1.out.other (by omega)).other (by omega)
  have F2 : Hid (NW W1 (w.heap.size + 2) (⟨⟨x.l.lo, x.l.hi⟩, ⟨0, 0⟩⟩ : Ss)) := by rw [hw_]; exact (F2.out.set0 _).set1 _
  have FB : Hid (Below w.heap.size w W1) := by rw [hw_]; exact (FB.out.setCell (by simp) _).setCell (by simp) _
  clear hw_
  obtain ⟨x0_0, x0_1, x0_2, x0_3, y0_0, y0_1, y0_2, y0_3⟩ := F0.out
  obtain ⟨x1_0, x1_1, x1_2, x1_3, y1_0, y1_1, y1_2, y1_3⟩ := F1.out
  obtain ⟨x2_0, x2_1, x2_2, x2_3, y2_0, y2_1, y2_2, y2_3⟩ := F2.out
  try dsimp only at x1_0 x1_1 x1_2 x1_3 x2_0 x2_1 x2_2 x2_3
  go_upto_region 4 with (go_at_call 77; refine (toSpan_any x.u _).mono ?_; rintro e w2 ⟨rfl, hb⟩; have F0 : Hid (NW w2 w.heap.size x) := F0.out.below hb F0.out.lt; have F1 : Hid (NW w2 (w.heap.size + 1) (⟨⟨0, 0⟩, ⟨0, 0⟩⟩ : Ss)) := F1.out.below hb F1.out.lt; have F2 : Hid (NW w2 (w.heap.size + 2) (⟨⟨x.l.lo, x.l.hi⟩, ⟨0, 0⟩⟩ : Ss)) := F2.out.below hb F2.out.lt; have FB : Hid (Below w.heap.size w w2) := FB.out.trans (hb.mono FB.out.size); clear hb; obtain ⟨x0_0, x0_1, x0_2, x0_3, y0_0, y0_1, y0_2, y0_3⟩ := F0.out; obtain ⟨x1_0, x1_1, x1_2, x1_3, y1_0, y1_1, y1_2, y1_3⟩ := F1.out; obtain ⟨x2_0, x2_1, x2_2, x2_3, y2_0, y2_1, y2_2, y2_3⟩ := F2.out; try dsimp only at x1_0 x1_1 x1_2 x1_3 x2_0 x2_1 x2_2 x2_3)
  clear x0_0 x0_1 x0_2 x0_3 y0_0 y0_1 y0_2 y0_3 x1_0 x1_1 x1_2 x1_3 y1_0 y1_1 y1_2 y1_3 x2_0 x2_1 x2_2 x2_3 y2_0 y2_1 y2_2 y2_3
  obtain ⟨W2, hw_⟩ : ∃ W2, W2 = (w2.setCell ⟨w.heap.size + 2, 2, none⟩ (.int .i64 x.u.lo)).setCell ⟨w.heap.size + 2, 3, none⟩ (.int .i64 x.u.hi) := ⟨_, rfl⟩
  rw [← hw_]
  have F0 : Hid (NW W2 w.heap.size x) := by rw [hw_]; exact (F0.out.other (by omega)).other (by omega)
  have F1 : Hid (NW W2 (w.heap.size + 1) (⟨⟨0, 0⟩, ⟨0, 0⟩⟩ : Ss)) := by rw [hw_]; exact (F1.out.other (by omega)).other (by omega)
  have F2 : Hid (NW W2 (w.heap.size + 2) x) := by rw [hw_]; exact (F2.out.set2 _).set3 _
  have FB : Hid (Below w.heap.size w W2) := by rw [hw_]; exact (FB.out.setCell (by simp) _).setCell (by simp) _
  clear hw_
  obtain ⟨x0_0, x0_1, x0_2, x0_3, y0_0, y0_1, y0_2, y0_3⟩ := F0.out
  obtain ⟨x1_0, x1_1, x1_2, x1_3, y1_0, y1_1, y1_2, y1_3⟩ := F1.out
  obtain ⟨x2_0, x2_1, x2_2, x2_3, y2_0, y2_1, y2_2, y2_3⟩ := F2.out
  try dsimp only at x1_0 x1_1 x1_2 x1_3 x2_0 x2_1 x2_2 x2_3
  go_wp2_with fail
  change bodyPost _ _ _ _ _ (putN W2 (w.heap.size + 1) x)
  obtain ⟨Wf, hWf⟩ : ∃ Wf, putN W2 (w.heap.size + 1) x = Wf := ⟨_, rfl⟩
  have HRf : NW Wf (w.heap.size + 1) x := hWf ▸ F1.out.put _
  have HBf : Below w.heap.size w Wf := hWf ▸ below_putN FB.out (by omega) _
  rw [hWf]
  clear hWf
  obtain ⟨d0, d1, d2, d3, -, -, -, -⟩ := HRf
  try dsimp only at d0 d1 d2 d3
  exact bodyPost_ret (v := .agg #[.int .i64 x.l.lo, .int .i64 x.l.hi, .int .i64 x.u.lo, .int .i64 x.u.hi]) (by simp [results, Tryz.results57, go_sem, d0, d1, d2, d3]) rfl ⟨rfl, HBf⟩
set_option maxRecDepth 20000 in
set_option maxHeartbeats 8000000 in
theorem eqSpan_same (x : Sp) (w : World) :
    Calls Tryz.prog 97 #[.agg #[.int .i64 x.lo, .int .i64 x.hi], .agg #[.int .i64 x.lo, .int .i64 x.hi]] w fun e w' => e = .returned (.bool true) ∧ Below w.heap.size w w' := by
  go_enter Tryz.func97, Tryz.ntmps97
  go_wp2
  go_ret
  exact ⟨rfl, by repeat (first | exact Below.refl _ _ | (refine Below.alloc ?_ ?_ _) | (refine Below.setCell ?_ ?_ _) | (simp; omega) | simp)⟩
set_option maxRecDepth 20000 in
set_option maxHeartbeats 8000000 in
theorem eqSpans_same (x : Ss) (w : World) :
    Calls Tryz.prog 69 #[.agg #[.int .i64 x.l.lo, .int .i64 x.l.hi, .int .i64 x.u.lo, .int .i64 x.u.hi], .agg #[.int .i64 x.l.lo, .int .i64 x.l.hi, .int .i64 x.u.lo, .int .i64 x.u.hi]] w fun e w' => e = .returned (.bool true) ∧ Below w.heap.size w w' := by
  have F0 : Hid (NW ((w.alloc (.cells #[.int .i64 x.l.lo, .int .i64 x.l.hi, .int .i64 x.u.lo, .int .i64 x.u.hi] 53)).alloc (.cells #[.int .i64 x.l.lo, .int .i64 x.l.hi, .int .i64 x.u.lo, .int .i64 x.u.hi] 53)) w.heap.size x) := (NW.at_ w x _ _ (by simp)).alloc _
  have F1 : Hid (NW ((w.alloc (.cells #[.int .i64 x.l.lo, .int .i64 x.l.hi, .int .i64 x.u.lo, .int .i64 x.u.hi] 53)).alloc (.cells #[.int .i64 x.l.lo, .int .i64 x.l.hi, .int .i64 x.u.lo, .int .i64 x.u.hi] 53)) (w.heap.size + 1) x) := NW.at_ (w.alloc (.cells #[.int .i64 x.l.lo, .int .i64 x.l.hi, .int .i64 x.u.lo, .int .i64 x.u.hi] 53)) x _ _ (by simp)
  have FB : Hid (Below w.heap.size w ((w.alloc (.cells #[.int .i64 x.l.lo, .int .i64 x.l.hi, .int .i64 x.u.lo, .int .i64 x.u.hi] 53)).alloc (.cells #[.int .i64 x.l.lo, .int .i64 x.l.hi, .int .i64 x.u.lo, .int .i64 x.u.hi] 53))) := (((Below.refl _ _).alloc (Nat.le_refl _) _).alloc (by simp <;> omega) _)
  go_enter Tryz.func69, Tryz.ntmps69
  go_wp2_with (go_at_call 97; refine (eqSpan_same _ _).mono ?_; rintro e w1 ⟨rfl, hb⟩; have F0 : Hid (NW w1 w.heap.size x) := F0.out.below hb F0.out.lt; have F1 : Hid (NW w1 (w.heap.size + 1) x) := F1.out.below hb F1.out.lt; have FB : Hid (Below w.heap.size w w1) := FB.out.trans (hb.mono FB.out.size); obtain ⟨x0_0, x0_1, x0_2, x0_3, y0_0, y0_1, y0_2, y0_3⟩ := F0.out; obtain ⟨x1_0, x1_1, x1_2, x1_3, y1_0, y1_1, y1_2, y1_3⟩ := F1.out; clear hb)
  go_ret
  exact ⟨rfl, FB.out⟩
end Go.Proofs.YtnfdplfifpmhoaaGreatDoor
