/-
  The law's decks and groups: how many, turned into the program's, compared.
-/
import Derived.Test.YtnfdplfifpmhoaaGreatDoorGrpB
import Derived.Test.YtnfdplfifpmhoaaGreatDoorCarT
import Derived.Test.YtnfdplfifpmhoaaGreatDoorSpanT
import Derived.Test.YtnfdplfifpmhoaaGreatDoorPersD
namespace Go.Proofs.YtnfdplfifpmhoaaGreatDoor
open Go.RowKit Pl
set_option linter.unusedSimpArgs false
set_option linter.unusedVariables false

theorem szDeckS_any (a : Option Addr) (len cap : Nat) (left : Int) (h1 : 0 ≤ left) (h2 : left ≤ 1048576) (hl : len ≤ maxLen) (w : World) :
    Calls Tryz.prog 9 #[.slice a len cap, .int .i64 left] w fun e w' => e = .returned (.int .i64 (if left < len then -1 else left - len)) ∧ w' = w := by
  unfold maxLen at hl
  have ew : IntKind.i64.wrap (left - len) = left - len := IntWalk.i64_in _ (by omega)
  by_cases c : left < len
  · rw [if_pos c]
    have d : decide (left - len < 0) = true := decide_eq_true (by omega)
    go_enter Tryz.func9, Tryz.ntmps9
    go_wp2
    go_ret
    exact ⟨rfl, rfl⟩
  · rw [if_neg c]
    have d : decide (left - len < 0) = false := decide_eq_false (by omega)
    go_enter Tryz.func9, Tryz.ntmps9
    go_wp2
    go_ret
    exact ⟨rfl, rfl⟩
set_option maxRecDepth 20000 in
set_option maxHeartbeats 16000000 in
theorem toDeck_any (d : Dk) (w : World) :
    Calls Tryz.prog 35 #[.agg #[.int .i64 d.sh.lo.pos, .int .i64 d.sh.lo.vel, .int .i64 d.sh.lo.door, .int .i64 d.sh.up.pos, .int .i64 d.sh.up.vel, .int .i64 d.sh.up.door, .int .i64 d.sp.l.lo, .int .i64 d.sp.l.hi, .int .i64 d.sp.u.lo, .int .i64 d.sp.u.hi, .int .i64 d.pl, .int .i64 d.pu, .bool d.hd]] w fun e w' => e = .returned (.agg #[.int .i64 d.sh.lo.pos, .int .i64 d.sh.lo.vel, .int .i64 d.sh.lo.door, .int .i64 d.sh.up.pos, .int .i64 d.sh.up.vel, .int .i64 d.sh.up.door, .int .i64 d.sp.l.lo, .int .i64 d.sp.l.hi, .int .i64 d.sp.u.lo, .int .i64 d.sp.u.hi, .int .i64 d.pl, .int .i64 d.pu, .bool d.hd]) ∧ Below w.heap.size w w' := by
  have F0 : Hid (Blk (((w.alloc (.cells #[.int .i64 d.sh.lo.pos, .int .i64 d.sh.lo.vel, .int .i64 d.sh.lo.door, .int .i64 d.sh.up.pos, .int .i64 d.sh.up.vel, .int .i64 d.sh.up.door, .int .i64 d.sp.l.lo, .int .i64 d.sp.l.hi, .int .i64 d.sp.u.lo, .int .i64 d.sp.u.hi, .int .i64 d.pl, .int .i64 d.pu, .bool d.hd] 84)).alloc (.cells #[.int .i64 0, .int .i64 0, .int .i64 0, .int .i64 0, .int .i64 0, .int .i64 0, .int .i64 0, .int .i64 0, .int .i64 0, .int .i64 0, .int .i64 0, .int .i64 0, .bool false] 55)).alloc (.cells #[.int .i64 0, .int .i64 0, .int .i64 0, .int .i64 0, .int .i64 0, .int .i64 0, .int .i64 0, .int .i64 0, .int .i64 0, .int .i64 0, .int .i64 0, .int .i64 0, .bool false] 55)) w.heap.size (cellsD d)) := ((Blk.at_ w #[.int .i64 d.sh.lo.pos, .int .i64 d.sh.lo.vel, .int .i64 d.sh.lo.door, .int .i64 d.sh.up.pos, .int .i64 d.sh.up.vel, .int .i64 d.sh.up.door, .int .i64 d.sp.l.lo, .int .i64 d.sp.l.hi, .int .i64 d.sp.u.lo, .int .i64 d.sp.u.hi, .int .i64 d.pl, .int .i64 d.pu, .bool d.hd] _ _ rfl).alloc _).alloc _
  have F1 : Hid (Blk (((w.alloc (.cells #[.int .i64 d.sh.lo.pos, .int .i64 d.sh.lo.vel, .int .i64 d.sh.lo.door, .int .i64 d.sh.up.pos, .int .i64 d.sh.up.vel, .int .i64 d.sh.up.door, .int .i64 d.sp.l.lo, .int .i64 d.sp.l.hi, .int .i64 d.sp.u.lo, .int .i64 d.sp.u.hi, .int .i64 d.pl, .int .i64 d.pu, .bool d.hd] 84)).alloc (.cells #[.int .i64 0, .int .i64 0, .int .i64 0, .int .i64 0, .int .i64 0, .int .i64 0, .int .i64 0, .int .i64 0, .int .i64 0, .int .i64 0, .int .i64 0, .int .i64 0, .bool false] 55)).alloc (.cells #[.int .i64 0, .int .i64 0, .int .i64 0, .int .i64 0, .int .i64 0, .int .i64 0, .int .i64 0, .int .i64 0, .int .i64 0, .int .i64 0, .int .i64 0, .int .i64 0, .bool false] 55)) (w.heap.size + 1) (cellsD zeroD)) := (Blk.at_ _ #[.int .i64 0, .int .i64 0, .int .i64 0, .int .i64 0, .int .i64 0, .int .i64 0, .int .i64 0, .int .i64 0, .int .i64 0, .int .i64 0, .int .i64 0, .int .i64 0, .bool false] _ _ (by simp)).alloc _
  have F2 : Hid (Blk (((w.alloc (.cells #[.int .i64 d.sh.lo.pos, .int .i64 d.sh.lo.vel, .int .i64 d.sh.lo.door, .int .i64 d.sh.up.pos, .int .i64 d.sh.up.vel, .int .i64 d.sh.up.door, .int .i64 d.sp.l.lo, .int .i64 d.sp.l.hi, .int .i64 d.sp.u.lo, .int .i64 d.sp.u.hi, .int .i64 d.pl, .int .i64 d.pu, .bool d.hd] 84)).alloc (.cells #[.int .i64 0, .int .i64 0, .int .i64 0, .int .i64 0, .int .i64 0, .int .i64 0, .int .i64 0, .int .i64 0, .int .i64 0, .int .i64 0, .int .i64 0, .int .i64 0, .bool false] 55)).alloc (.cells #[.int .i64 0, .int .i64 0, .int .i64 0, .int .i64 0, .int .i64 0, .int .i64 0, .int .i64 0, .int .i64 0, .int .i64 0, .int .i64 0, .int .i64 0, .int .i64 0, .bool false] 55)) (w.heap.size + 2) (cellsD zeroD)) := Blk.at_ _ #[.int .i64 0, .int .i64 0, .int .i64 0, .int .i64 0, .int .i64 0, .int .i64 0, .int .i64 0, .int .i64 0, .int .i64 0, .int .i64 0, .int .i64 0, .int .i64 0, .bool false] _ _ (by simp)
  have FB : Hid (Below w.heap.size w (((w.alloc (.cells #[.int .i64 d.sh.lo.pos, .int .i64 d.sh.lo.vel, .int .i64 d.sh.lo.door, .int .i64 d.sh.up.pos, .int .i64 d.sh.up.vel, .int .i64 d.sh.up.door, .int .i64 d.sp.l.lo, .int .i64 d.sp.l.hi, .int .i64 d.sp.u.lo, .int .i64 d.sp.u.hi, .int .i64 d.pl, .int .i64 d.pu, .bool d.hd] 84)).alloc (.cells #[.int .i64 0, .int .i64 0, .int .i64 0, .int .i64 0, .int .i64 0, .int .i64 0, .int .i64 0, .int .i64 0, .int .i64 0, .int .i64 0, .int .i64 0, .int .i64 0, .bool false] 55)).alloc (.cells #[.int .i64 0, .int .i64 0, .int .i64 0, .int .i64 0, .int .i64 0, .int .i64 0, .int .i64 0, .int .i64 0, .int .i64 0, .int .i64 0, .int .i64 0, .int .i64 0, .bool false] 55))) := (((Below.refl _ _).alloc (Nat.le_refl _) _).alloc (by simp) _).alloc (by simp; omega) _
  obtain ⟨W0, hW0⟩ : ∃ W0, W0 = (((w.alloc (.cells #[.int .i64 d.sh.lo.pos, .int .i64 d.sh.lo.vel, .int .i64 d.sh.lo.door, .int .i64 d.sh.up.pos, .int .i64 d.sh.up.vel, .int .i64 d.sh.up.door, .int .i64 d.sp.l.lo, .int .i64 d.sp.l.hi, .int .i64 d.sp.u.lo, .int .i64 d.sp.u.hi, .int .i64 d.pl, .int .i64 d.pu, .bool d.hd] 84)).alloc (.cells #[.int .i64 0, .int .i64 0, .int .i64 0, .int .i64 0, .int .i64 0, .int .i64 0, .int .i64 0, .int .i64 0, .int .i64 0, .int .i64 0, .int .i64 0, .int .i64 0, .bool false] 55)).alloc (.cells #[.int .i64 0, .int .i64 0, .int .i64 0, .int .i64 0, .int .i64 0, .int .i64 0, .int .i64 0, .int .i64 0, .int .i64 0, .int .i64 0, .int .i64 0, .int .i64 0, .bool false] 55)) := ⟨_, rfl⟩
  rw [← hW0] at F0 F1 F2 FB
  have HW0 : Hid (W0 = (((w.alloc (.cells #[.int .i64 d.sh.lo.pos, .int .i64 d.sh.lo.vel, .int .i64 d.sh.lo.door, .int .i64 d.sh.up.pos, .int .i64 d.sh.up.vel, .int .i64 d.sh.up.door, .int .i64 d.sp.l.lo, .int .i64 d.sp.l.hi, .int .i64 d.sp.u.lo, .int .i64 d.sp.u.hi, .int .i64 d.pl, .int .i64 d.pu, .bool d.hd] 84)).alloc (.cells #[.int .i64 0, .int .i64 0, .int .i64 0, .int .i64 0, .int .i64 0, .int .i64 0, .int .i64 0, .int .i64 0, .int .i64 0, .int .i64 0, .int .i64 0, .int .i64 0, .bool false] 55)).alloc (.cells #[.int .i64 0, .int .i64 0, .int .i64 0, .int .i64 0, .int .i64 0, .int .i64 0, .int .i64 0, .int .i64 0, .int .i64 0, .int .i64 0, .int .i64 0, .int .i64 0, .bool false] 55))) := hW0
  clear hW0
  go_enter Tryz.func35, Tryz.ntmps35
  go_upto_region 2 with fail
  rw [← HW0.out]
  clear HW0
  have x0 := F0.out.c 0 _ rfl
  have x1 := F0.out.c 1 _ rfl
  have x2 := F0.out.c 2 _ rfl
  have x3 := F0.out.c 3 _ rfl
  have x4 := F0.out.c 4 _ rfl
  have x5 := F0.out.c 5 _ rfl
  have x6 := F0.out.c 6 _ rfl
  have x7 := F0.out.c 7 _ rfl
  have x8 := F0.out.c 8 _ rfl
  have x9 := F0.out.c 9 _ rfl
  have x10 := F0.out.c 10 _ rfl
  have x11 := F0.out.c 11 _ rfl
  have x12 := F0.out.c 12 _ rfl
  have y0 := F2.out.c 0 _ rfl
  have y1 := F2.out.c 1 _ rfl
  have y2 := F2.out.c 2 _ rfl
  have y3 := F2.out.c 3 _ rfl
  have y4 := F2.out.c 4 _ rfl
  have y5 := F2.out.c 5 _ rfl
  have y6 := F2.out.c 6 _ rfl
  have y7 := F2.out.c 7 _ rfl
  have y8 := F2.out.c 8 _ rfl
  have y9 := F2.out.c 9 _ rfl
  have y10 := F2.out.c 10 _ rfl
  have y11 := F2.out.c 11 _ rfl
  have y12 := F2.out.c 12 _ rfl
  have yf0 := F2.out.f 0 (Nat.le_of_ble_eq_true rfl)
  have yf1 := F2.out.f 1 (Nat.le_of_ble_eq_true rfl)
  have yf2 := F2.out.f 2 (Nat.le_of_ble_eq_true rfl)
  have yf3 := F2.out.f 3 (Nat.le_of_ble_eq_true rfl)
  have yf4 := F2.out.f 4 (Nat.le_of_ble_eq_true rfl)
  have yf5 := F2.out.f 5 (Nat.le_of_ble_eq_true rfl)
  have yf6 := F2.out.f 6 (Nat.le_of_ble_eq_true rfl)
  have yf7 := F2.out.f 7 (Nat.le_of_ble_eq_true rfl)
  have yf8 := F2.out.f 8 (Nat.le_of_ble_eq_true rfl)
  have yf9 := F2.out.f 9 (Nat.le_of_ble_eq_true rfl)
  have yf10 := F2.out.f 10 (Nat.le_of_ble_eq_true rfl)
  have yf11 := F2.out.f 11 (Nat.le_of_ble_eq_true rfl)
  have yf12 := F2.out.f 12 (Nat.le_of_ble_eq_true rfl)
  go_upto_region 3 with (go_at_call 56; refine (toShaft_any d.sh _).mono ?_; rintro e w1 ⟨rfl, hb⟩; have F0 : Hid (Blk w1 w.heap.size (cellsD d)) := F0.out.below hb F0.out.lt; have F1 : Hid (Blk w1 (w.heap.size + 1) (cellsD zeroD)) := F1.out.below hb F1.out.lt; have F2 : Hid (Blk w1 (w.heap.size + 2) (cellsD zeroD)) := F2.out.below hb F2.out.lt; have FB : Hid (Below w.heap.size w w1) := FB.out.trans (hb.mono FB.out.size); clear hb; have y0 := F2.out.c 0 _ rfl; have y1 := F2.out.c 1 _ rfl; have y2 := F2.out.c 2 _ rfl; have y3 := F2.out.c 3 _ rfl; have y4 := F2.out.c 4 _ rfl; have y5 := F2.out.c 5 _ rfl; have y6 := F2.out.c 6 _ rfl; have y7 := F2.out.c 7 _ rfl; have y8 := F2.out.c 8 _ rfl; have y9 := F2.out.c 9 _ rfl; have y10 := F2.out.c 10 _ rfl; have y11 := F2.out.c 11 _ rfl; have y12 := F2.out.c 12 _ rfl; have yf0 := F2.out.f 0 (Nat.le_of_ble_eq_true rfl); have yf1 := F2.out.f 1 (Nat.le_of_ble_eq_true rfl); have yf2 := F2.out.f 2 (Nat.le_of_ble_eq_true rfl); have yf3 := F2.out.f 3 (Nat.le_of_ble_eq_true rfl); have yf4 := F2.out.f 4 (Nat.le_of_ble_eq_true rfl); have yf5 := F2.out.f 5 (Nat.le_of_ble_eq_true rfl); have yf6 := F2.out.f 6 (Nat.le_of_ble_eq_true rfl); have yf7 := F2.out.f 7 (Nat.le_of_ble_eq_true rfl); have yf8 := F2.out.f 8 (Nat.le_of_ble_eq_true rfl); have yf9 := F2.out.f 9 (Nat.le_of_ble_eq_true rfl); have yf10 := F2.out.f 10 (Nat.le_of_ble_eq_true rfl); have yf11 := F2.out.f 11 (Nat.le_of_ble_eq_true rfl); have yf12 := F2.out.f 12 (Nat.le_of_ble_eq_true rfl))
  have l2 := F2.out.lt
  obtain ⟨W1, hw_⟩ : ∃ W1, W1 = (((((w1.setCell ⟨w.heap.size + 2, 0, none⟩ (.int .i64 d.sh.lo.pos)).setCell ⟨w.heap.size + 2, 1, none⟩ (.int .i64 d.sh.lo.vel)).setCell ⟨w.heap.size + 2, 2, none⟩ (.int .i64 d.sh.lo.door)).setCell ⟨w.heap.size + 2, 3, none⟩ (.int .i64 d.sh.up.pos)).setCell ⟨w.heap.size + 2, 4, none⟩ (.int .i64 d.sh.up.vel)).setCell ⟨w.heap.size + 2, 5, none⟩ (.int .i64 d.sh.up.door) := ⟨_, rfl⟩
  rw [← hw_]
  have F2 : Hid (Blk W1 (w.heap.size + 2) (cellsD ⟨d.sh, ⟨⟨0, 0⟩, ⟨0, 0⟩⟩, 0, 0, false⟩)) := by rw [hw_]; exact putB_set [.int .i64 d.sh.lo.pos, .int .i64 d.sh.lo.vel, .int .i64 d.sh.lo.door, .int .i64 d.sh.up.pos, .int .i64 d.sh.up.vel, .int .i64 d.sh.up.door] _ 0 w1 F2.out (Nat.le_of_ble_eq_true rfl)
  have F0 : Hid (Blk W1 w.heap.size (cellsD d)) := by rw [hw_]; exact Blk.putB_other (by omega) [.int .i64 d.sh.lo.pos, .int .i64 d.sh.lo.vel, .int .i64 d.sh.lo.door, .int .i64 d.sh.up.pos, .int .i64 d.sh.up.vel, .int .i64 d.sh.up.door] 0 F0.out
  have F1 : Hid (Blk W1 (w.heap.size + 1) (cellsD zeroD)) := by rw [hw_]; exact Blk.putB_other (by omega) [.int .i64 d.sh.lo.pos, .int .i64 d.sh.lo.vel, .int .i64 d.sh.lo.door, .int .i64 d.sh.up.pos, .int .i64 d.sh.up.vel, .int .i64 d.sh.up.door] 0 F1.out
  have FB : Hid (Below w.heap.size w W1) := by rw [hw_]; exact below_putB FB.out (by omega) [.int .i64 d.sh.lo.pos, .int .i64 d.sh.lo.vel, .int .i64 d.sh.lo.door, .int .i64 d.sh.up.pos, .int .i64 d.sh.up.vel, .int .i64 d.sh.up.door] 0
  clear hw_
  have x0 := F0.out.c 0 _ rfl
  have x1 := F0.out.c 1 _ rfl
  have x2 := F0.out.c 2 _ rfl
  have x3 := F0.out.c 3 _ rfl
  have x4 := F0.out.c 4 _ rfl
  have x5 := F0.out.c 5 _ rfl
  have x6 := F0.out.c 6 _ rfl
  have x7 := F0.out.c 7 _ rfl
  have x8 := F0.out.c 8 _ rfl
  have x9 := F0.out.c 9 _ rfl
  have x10 := F0.out.c 10 _ rfl
  have x11 := F0.out.c 11 _ rfl
  have x12 := F0.out.c 12 _ rfl
  have y0 := F2.out.c 0 _ rfl
  have y1 := F2.out.c 1 _ rfl
  have y2 := F2.out.c 2 _ rfl
  have y3 := F2.out.c 3 _ rfl
  have y4 := F2.out.c 4 _ rfl
  have y5 := F2.out.c 5 _ rfl
  have y6 := F2.out.c 6 _ rfl
  have y7 := F2.out.c 7 _ rfl
  have y8 := F2.out.c 8 _ rfl
  have y9 := F2.out.c 9 _ rfl
  have y10 := F2.out.c 10 _ rfl
  have y11 := F2.out.c 11 _ rfl
  have y12 := F2.out.c 12 _ rfl
  have yf0 := F2.out.f 0 (Nat.le_of_ble_eq_true rfl)
  have yf1 := F2.out.f 1 (Nat.le_of_ble_eq_true rfl)
  have yf2 := F2.out.f 2 (Nat.le_of_ble_eq_true rfl)
  have yf3 := F2.out.f 3 (Nat.le_of_ble_eq_true rfl)
  have yf4 := F2.out.f 4 (Nat.le_of_ble_eq_true rfl)
  have yf5 := F2.out.f 5 (Nat.le_of_ble_eq_true rfl)
  have yf6 := F2.out.f 6 (Nat.le_of_ble_eq_true rfl)
  have yf7 := F2.out.f 7 (Nat.le_of_ble_eq_true rfl)
  have yf8 := F2.out.f 8 (Nat.le_of_ble_eq_true rfl)
  have yf9 := F2.out.f 9 (Nat.le_of_ble_eq_true rfl)
  have yf10 := F2.out.f 10 (Nat.le_of_ble_eq_true rfl)
  have yf11 := F2.out.f 11 (Nat.le_of_ble_eq_true rfl)
  have yf12 := F2.out.f 12 (Nat.le_of_ble_eq_true rfl)
  go_upto_region 4 with (go_at_call 57; refine (toSpans_any d.sp _).mono ?_; rintro e w2 ⟨rfl, hb⟩; have F0 : Hid (Blk w2 w.heap.size (cellsD d)) := F0.out.below hb F0.out.lt; have F1 : Hid (Blk w2 (w.heap.size + 1) (cellsD zeroD)) := F1.out.below hb F1.out.lt; have F2 : Hid (Blk w2 (w.heap.size + 2) (cellsD ⟨d.sh, ⟨⟨0, 0⟩, ⟨0, 0⟩⟩, 0, 0, false⟩)) := F2.out.below hb F2.out.lt; have FB : Hid (Below w.heap.size w w2) := FB.out.trans (hb.mono FB.out.size); clear hb; have y0 := F2.out.c 0 _ rfl; have y1 := F2.out.c 1 _ rfl; have y2 := F2.out.c 2 _ rfl; have y3 := F2.out.c 3 _ rfl; have y4 := F2.out.c 4 _ rfl; have y5 := F2.out.c 5 _ rfl; have y6 := F2.out.c 6 _ rfl; have y7 := F2.out.c 7 _ rfl; have y8 := F2.out.c 8 _ rfl; have y9 := F2.out.c 9 _ rfl; have y10 := F2.out.c 10 _ rfl; have y11 := F2.out.c 11 _ rfl; have y12 := F2.out.c 12 _ rfl; have yf0 := F2.out.f 0 (Nat.le_of_ble_eq_true rfl); have yf1 := F2.out.f 1 (Nat.le_of_ble_eq_true rfl); have yf2 := F2.out.f 2 (Nat.le_of_ble_eq_true rfl); have yf3 := F2.out.f 3 (Nat.le_of_ble_eq_true rfl); have yf4 := F2.out.f 4 (Nat.le_of_ble_eq_true rfl); have yf5 := F2.out.f 5 (Nat.le_of_ble_eq_true rfl); have yf6 := F2.out.f 6 (Nat.le_of_ble_eq_true rfl); have yf7 := F2.out.f 7 (Nat.le_of_ble_eq_true rfl); have yf8 := F2.out.f 8 (Nat.le_of_ble_eq_true rfl); have yf9 := F2.out.f 9 (Nat.le_of_ble_eq_true rfl); have yf10 := F2.out.f 10 (Nat.le_of_ble_eq_true rfl); have yf11 := F2.out.f 11 (Nat.le_of_ble_eq_true rfl); have yf12 := F2.out.f 12 (Nat.le_of_ble_eq_true rfl))
  obtain ⟨W2, hw_⟩ : ∃ W2, W2 = (((w2.setCell ⟨w.heap.size + 2, 6, none⟩ (.int .i64 d.sp.l.lo)).setCell ⟨w.heap.size + 2, 7, none⟩ (.int .i64 d.sp.l.hi)).setCell ⟨w.heap.size + 2, 8, none⟩ (.int .i64 d.sp.u.lo)).setCell ⟨w.heap.size + 2, 9, none⟩ (.int .i64 d.sp.u.hi) := ⟨_, rfl⟩
  rw [← hw_]
  have F2 : Hid (Blk W2 (w.heap.size + 2) (cellsD ⟨d.sh, d.sp, 0, 0, false⟩)) := by rw [hw_]; exact putB_set [.int .i64 d.sp.l.lo, .int .i64 d.sp.l.hi, .int .i64 d.sp.u.lo, .int .i64 d.sp.u.hi] _ 6 w2 F2.out (Nat.le_of_ble_eq_true rfl)
  have F0 : Hid (Blk W2 w.heap.size (cellsD d)) := by rw [hw_]; exact Blk.putB_other (by omega) [.int .i64 d.sp.l.lo, .int .i64 d.sp.l.hi, .int .i64 d.sp.u.lo, .int .i64 d.sp.u.hi] 6 F0.out
  have F1 : Hid (Blk W2 (w.heap.size + 1) (cellsD zeroD)) := by rw [hw_]; exact Blk.putB_other (by omega) [.int .i64 d.sp.l.lo, .int .i64 d.sp.l.hi, .int .i64 d.sp.u.lo, .int .i64 d.sp.u.hi] 6 F1.out
  have FB : Hid (Below w.heap.size w W2) := by rw [hw_]; exact below_putB FB.out (by omega) [.int .i64 d.sp.l.lo, .int .i64 d.sp.l.hi, .int .i64 d.sp.u.lo, .int .i64 d.sp.u.hi] 6
  clear hw_
  have x0 := F0.out.c 0 _ rfl
  have x1 := F0.out.c 1 _ rfl
  have x2 := F0.out.c 2 _ rfl
  have x3 := F0.out.c 3 _ rfl
  have x4 := F0.out.c 4 _ rfl
  have x5 := F0.out.c 5 _ rfl
  have x6 := F0.out.c 6 _ rfl
  have x7 := F0.out.c 7 _ rfl
  have x8 := F0.out.c 8 _ rfl
  have x9 := F0.out.c 9 _ rfl
  have x10 := F0.out.c 10 _ rfl
  have x11 := F0.out.c 11 _ rfl
  have x12 := F0.out.c 12 _ rfl
  have y0 := F2.out.c 0 _ rfl
  have y1 := F2.out.c 1 _ rfl
  have y2 := F2.out.c 2 _ rfl
  have y3 := F2.out.c 3 _ rfl
  have y4 := F2.out.c 4 _ rfl
  have y5 := F2.out.c 5 _ rfl
  have y6 := F2.out.c 6 _ rfl
  have y7 := F2.out.c 7 _ rfl
  have y8 := F2.out.c 8 _ rfl
  have y9 := F2.out.c 9 _ rfl
  have y10 := F2.out.c 10 _ rfl
  have y11 := F2.out.c 11 _ rfl
  have y12 := F2.out.c 12 _ rfl
  have yf0 := F2.out.f 0 (Nat.le_of_ble_eq_true rfl)
  have yf1 := F2.out.f 1 (Nat.le_of_ble_eq_true rfl)
  have yf2 := F2.out.f 2 (Nat.le_of_ble_eq_true rfl)
  have yf3 := F2.out.f 3 (Nat.le_of_ble_eq_true rfl)
  have yf4 := F2.out.f 4 (Nat.le_of_ble_eq_true rfl)
  have yf5 := F2.out.f 5 (Nat.le_of_ble_eq_true rfl)
  have yf6 := F2.out.f 6 (Nat.le_of_ble_eq_true rfl)
  have yf7 := F2.out.f 7 (Nat.le_of_ble_eq_true rfl)
  have yf8 := F2.out.f 8 (Nat.le_of_ble_eq_true rfl)
  have yf9 := F2.out.f 9 (Nat.le_of_ble_eq_true rfl)
  have yf10 := F2.out.f 10 (Nat.le_of_ble_eq_true rfl)
  have yf11 := F2.out.f 11 (Nat.le_of_ble_eq_true rfl)
  have yf12 := F2.out.f 12 (Nat.le_of_ble_eq_true rfl)
  go_upto_region 7 with fail
  obtain ⟨W3, hw_⟩ : ∃ W3, W3 = ((W2.setCell ⟨w.heap.size + 2, 10, none⟩ (.int .i64 d.pl)).setCell ⟨w.heap.size + 2, 11, none⟩ (.int .i64 d.pu)).setCell ⟨w.heap.size + 2, 12, none⟩ (.bool d.hd) := ⟨_, rfl⟩
  rw [← hw_]
  have F2 : Hid (Blk W3 (w.heap.size + 2) (cellsD d)) := by rw [hw_]; exact putB_set [.int .i64 d.pl, .int .i64 d.pu, .bool d.hd] _ 10 W2 F2.out (Nat.le_of_ble_eq_true rfl)
  have F1 : Hid (Blk W3 (w.heap.size + 1) (cellsD zeroD)) := by rw [hw_]; exact Blk.putB_other (by omega) [.int .i64 d.pl, .int .i64 d.pu, .bool d.hd] 10 F1.out
  have FB : Hid (Below w.heap.size w W3) := by rw [hw_]; exact below_putB FB.out (by omega) [.int .i64 d.pl, .int .i64 d.pu, .bool d.hd] 10
  clear hw_
  go_wp2_with (first | (refine load_blk 55 _ Tryz.underlying55 (by kernel_rfl) F2.out rfl rfl rfl ?_) | (refine store_blk (cellsD d) 55 _ _ (by kernel_rfl) (by kernel_rfl) (by kernel_rfl) F1.out rfl rfl rfl rfl ?_))
  exact bodyPost_ret (v := .agg #[.int .i64 d.sh.lo.pos, .int .i64 d.sh.lo.vel, .int .i64 d.sh.lo.door, .int .i64 d.sh.up.pos, .int .i64 d.sh.up.vel, .int .i64 d.sh.up.door, .int .i64 d.sp.l.lo, .int .i64 d.sp.l.hi, .int .i64 d.sp.u.lo, .int .i64 d.sp.u.hi, .int .i64 d.pl, .int .i64 d.pu, .bool d.hd]) ((F1.out.row (cellsD d)).res _ Tryz.results35 Tryz.underlying55 (by kernel_rfl) rfl) rfl ⟨rfl, below_row FB.out (by omega) _⟩
theorem infoDK : (Tryz.prog.info? 55).map (fun i => (i.zero, i.size, i.bytes)) = some (some (.agg (cellsD zeroD).toArray), 13, 104) := by kernel_rfl
theorem undDS : Tryz.prog.underlying 33 = some (.slice 55) := by kernel_rfl
theorem make_decks (n : Nat) (hn : n ≤ 1048576) (w : World) : (Instr.makeSlice 33 (.int .i64 (n : Int)) (.int .i64 (n : Int))).run Tryz.prog w = .ok (.slice (some ⟨w.heap.size, 0, none⟩) n n) (w.alloc (.cells (madeCells (cellsD zeroD).toArray (n * 13)) 55)) := by
  obtain ⟨i, hi, hz, hs, hb⟩ := info_parts infoDK
  have r := run_make (P := Tryz.prog) w 33 55 i (.agg (cellsD zeroD).toArray) undDS hi hz .i64 .i64 n n (by omega) (Int.le_refl _) (by rw [hb]; omega) (by omega)
  rw [hs] at r
  have e : (Value.agg (cellsD zeroD).toArray).cells = (cellsD zeroD).toArray := rfl
  rw [e] at r
  simpa using r
theorem own_madeD (n : Nat) (hn : n ≤ 1048576) (w : World) (B : Nat) (hB : B ≤ w.heap.size) : OwD (w.alloc (.cells (madeCells (cellsD zeroD).toArray (n * 13)) 55)) B w.heap.size n n (List.replicate n zeroD) := by
  have a := World.ownsRow_lit (base := B) (e := 55) (size := 13) w (madeCells (cellsD zeroD).toArray (n * 13)) n hB (by unfold maxLen; omega) (size_madeCells _ _)
  rw [made_flatD] at a
  exact ⟨List.length_replicate .., a⟩
theorem take_repD {l : List Dk} {i : Nat} {p : Dk} (h : l[i]? = some p) : (l.take i ++ List.replicate (l.length - i) zeroD).set i p = l.take (i + 1) ++ List.replicate (l.length - (i + 1)) zeroD := by
  have hi : i < l.length := (List.getElem?_eq_some_iff.1 h).1
  have e : l[i] = p := (List.getElem?_eq_some_iff.1 h).2
  rw [List.set_append_right _ _ (by rw [List.length_take]; omega), List.length_take, Nat.min_eq_left (by omega), Nat.sub_self]
  rw [show l.length - i = (l.length - (i + 1)) + 1 by omega, List.replicate_succ, List.set_cons_zero, List.take_succ_eq_append_getElem hi, e]
  simp
set_option maxRecDepth 20000 in
set_option maxHeartbeats 16000000 in
theorem toDeckS_any (a0 : Option Addr) (cap : Nat) (l : List Dk) (hl : l.length ≤ 1048576) (w : World) (hP : DIn w w.heap.size a0 l) :
    Calls Tryz.prog 16 #[.slice a0 l.length cap] w fun e w' => ∃ g, e = .returned (.slice (some ⟨g, 0, none⟩) l.length l.length) ∧ OwD w' w.heap.size g l.length l.length l ∧ Below w.heap.size w w' := by
  have hmk := make_decks l.length hl
  have HP : Hid (DIn w w.heap.size a0 l) := hP
  have HO : Hid (OwD (w.alloc (.cells (madeCells (cellsD zeroD).toArray (l.length * 13)) 55)) w.heap.size w.heap.size l.length l.length (List.replicate l.length zeroD)) := own_madeD l.length hl w w.heap.size (Nat.le_refl _)
  clear hP
  go_enter Tryz.func16, Tryz.ntmps16
  go_wp2_with fail
  clear hmk
  go_loopw [4] (fun ii wr => ∃ i : Nat, ii = .int .i64 i ∧ i ≤ l.length ∧ OwD wr w.heap.size w.heap.size l.length l.length (l.take i ++ List.replicate (l.length - i) zeroD) ∧ Below w.heap.size w wr) (fun ii _ => l.length - (intOf ii).toNat)
  case atStart => exact ⟨0, rfl, by omega, by simpa using HO.out, (Below.refl _ _).alloc (Nat.le_refl _) _⟩
  case round =>
    obtain ⟨i, rfl, hi, ho, hb⟩ := hrel
    clear HO
    have FB : Hid (Below w.heap.size w wr) := hb
    have FO : Hid (OwD wr w.heap.size w.heap.size l.length l.length (l.take i ++ List.replicate (l.length - i) zeroD)) := ho
    by_cases hlt : i < l.length
    · obtain ⟨p, hp⟩ : ∃ p, l[i]? = some p := ⟨_, List.getElem?_eq_getElem hlt⟩
      rcases HP.out with h0 | ⟨b, o, rfl, hbl, h13⟩
      · rw [h0] at hlt; simp at hlt
      obtain ⟨c0, c1, c2, c3, c4, c5, c6, c7, c8, c9, c10, c11, c12⟩ := (h13 i p hp).below hb hbl
      have hz : (l.take i ++ List.replicate (l.length - i) zeroD)[i]? = some zeroD := by
        rw [List.getElem?_append_right (by rw [List.length_take]; omega), List.length_take, Nat.min_eq_left (by omega), Nat.sub_self, List.getElem?_replicate, if_pos (by omega)]
      have HZ : Hid ((l.take i ++ List.replicate (l.length - i) zeroD)[i]? = some zeroD) := hz
      have HE : Hid ((l.take i ++ List.replicate (l.length - i) zeroD).set i p = l.take (i + 1) ++ List.replicate (l.length - (i + 1)) zeroD) := take_repD hp
      clear hp hz hb ho h13
      go_wp2_with (go_at_call 35; refine (toDeck_any p _).mono ?_; rintro e w1 ⟨rfl, hb⟩; have FO : Hid (OwD w1 w.heap.size w.heap.size l.length l.length (l.take i ++ List.replicate (l.length - i) zeroD)) := FO.out.below hb FO.out.bl.2; have FB : Hid (Below w.heap.size w w1) := FB.out.trans (hb.mono FB.out.size); clear hb; obtain ⟨d0, d1, d2, d3, d4, d5, d6, d7, d8, d9, d10, d11, d12⟩ := FO.out.d13 HZ.out; have f0 := FO.out.fz (i * 13); have f1 := FO.out.fz (i * 13 + 1); have f2 := FO.out.fz (i * 13 + 2); have f3 := FO.out.fz (i * 13 + 3); have f4 := FO.out.fz (i * 13 + 4); have f5 := FO.out.fz (i * 13 + 5); have f6 := FO.out.fz (i * 13 + 6); have f7 := FO.out.fz (i * 13 + 7); have f8 := FO.out.fz (i * 13 + 8); have f9 := FO.out.fz (i * 13 + 9); have f10 := FO.out.fz (i * 13 + 10); have f11 := FO.out.fz (i * 13 + 11); have f12 := FO.out.fz (i * 13 + 12))
      go_roundw
      case rel => exact ⟨i + 1, by simp, by omega, HE.out ▸ FO.out.put p HZ.out, below_putD FB.out (Nat.le_refl _) _ _⟩
      case measure => simp [intOf]; omega
    · have ei : i = l.length := by omega
      subst ei
      have HO : Hid (OwD wr w.heap.size w.heap.size l.length l.length l) := by
        have q := FO.out
        rw [List.take_length, Nat.sub_self, List.replicate_zero, List.append_nil] at q
        exact q
      clear hb ho FO
      go_wp2_with fail
      go_ret
      exact ⟨_, rfl, HO.out, FB.out⟩
set_option maxRecDepth 20000 in
set_option maxHeartbeats 16000000 in
theorem szGroup_any (h : Hs) (da : Option Addr) (dn dc : Nat) (nx : Int) (pa : Option Addr) (pn pc : Nat) (tk : Int) (rc : Bool) (hd : dn ≤ maxLen) (hp : pn ≤ maxLen) (w : World) :
    Calls Tryz.prog 4 #[.agg #[.int .i64 h.fl, .int .i64 h.gp, .int .i64 h.ln, .int .i64 h.rf, .int .i64 h.sp, .int .i64 h.pu, .int .i64 h.br, .int .i64 h.dr, .int .i64 h.lv, .int .i64 h.dO, .int .i64 h.ld, .int .i64 h.qu, .slice da dn dc, .int .i64 nx, .slice pa pn pc, .int .i64 tk, .bool rc], .int .i64 1048576] w fun e w' => e = .returned (.int .i64 (if (1048576 : Int) < (dn : Int) + pn then -1 else 1048576 - dn - pn)) ∧ Below w.heap.size w w' := by
  have HB : Hid (Below w.heap.size w (w.alloc (.cells #[.int .i64 h.fl, .int .i64 h.gp, .int .i64 h.ln, .int .i64 h.rf, .int .i64 h.sp, .int .i64 h.pu, .int .i64 h.br, .int .i64 h.dr, .int .i64 h.lv, .int .i64 h.dO, .int .i64 h.ld, .int .i64 h.qu, .slice da dn dc, .int .i64 nx, .slice pa pn pc, .int .i64 tk, .bool rc] 29))) := (Below.refl _ _).alloc (Nat.le_refl _) _
  by_cases c : (1048576 : Int) < dn
  · rw [if_pos (by omega)]
    go_enter Tryz.func4, Tryz.ntmps4
    go_wp2_with (go_at_call 9; refine (szDeckS_any da dn dc 1048576 (by omega) (by omega) hd _).mono ?_; rw [if_pos c]; rintro e w' ⟨rfl, hw⟩; obtain rfl := hw.symm; clear hw)
    go_ret
    exact ⟨rfl, HB.out⟩
  · have d : decide ((1048576 : Int) - dn < 0) = false := decide_eq_false (by omega)
    obtain ⟨lf, hlf⟩ : ∃ lf : Int, (1048576 : Int) - dn = lf := ⟨_, rfl⟩
    have e0 : 0 ≤ lf := by omega
    have e1 : lf ≤ 1048576 := by omega
    have CD : Hid ((if (1048576 : Int) < (dn : Int) then (-1 : Int) else 1048576 - dn) = lf) := by rw [if_neg c]; exact hlf
    have er : (if (1048576 : Int) < (dn : Int) + pn then (-1 : Int) else 1048576 - dn - pn) = (if lf < pn then -1 else lf - pn) := by
      by_cases q : lf < pn
      · rw [if_pos q, if_pos (by omega)]
      · rw [if_neg q, if_neg (by omega)]; omega
    rw [er]
    rw [hlf] at d
    clear er hlf c
    by_cases c2 : lf < pn
    · have CP : Hid ((if lf < (pn : Int) then (-1 : Int) else lf - pn) = -1) := if_pos c2
      rw [if_pos c2]
      clear c2
      go_enter Tryz.func4, Tryz.ntmps4
      go_wp2_with (first | (go_at_call 9; refine (szDeckS_any da dn dc 1048576 (by omega) (by omega) hd _).mono ?_; rw [CD.out]; rintro e w' ⟨rfl, hw⟩; obtain rfl := hw.symm; clear hw) | (go_at_call 10; refine (szLedger_any nx pa pn pc lf e0 e1 hp _).mono ?_; rw [CP.out]; rintro e w2 ⟨rfl, hb⟩; have HB : Hid (Below w.heap.size w w2) := HB.out.trans (hb.mono HB.out.size); clear hb))
      go_ret
      exact ⟨rfl, HB.out⟩
    · have CP : Hid ((if lf < (pn : Int) then (-1 : Int) else lf - pn) = lf - pn) := if_neg c2
      have d2 : decide (lf - pn < 0) = false := decide_eq_false (by omega)
      rw [if_neg c2]
      clear c2
      go_enter Tryz.func4, Tryz.ntmps4
      go_wp2_with (first | (go_at_call 9; refine (szDeckS_any da dn dc 1048576 (by omega) (by omega) hd _).mono ?_; rw [CD.out]; rintro e w' ⟨rfl, hw⟩; obtain rfl := hw.symm; clear hw) | (go_at_call 10; refine (szLedger_any nx pa pn pc lf e0 e1 hp _).mono ?_; rw [CP.out]; rintro e w2 ⟨rfl, hb⟩; have HB : Hid (Below w.heap.size w w2) := HB.out.trans (hb.mono HB.out.size); clear hb))
      go_ret
      exact ⟨rfl, HB.out⟩
end Go.Proofs.YtnfdplfifpmhoaaGreatDoor
