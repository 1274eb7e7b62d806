/-
  The model's car and command: their faults; how high and how low a car comes.
-/
import Derived.Test.YtnfdplfifpmhoaaGreatDoorCarA
import Derived.Test.YtnfdplfifpmhoaaGreatDoorHouseE
import Derived.BigGuardPart
namespace Go.Proofs.YtnfdplfifpmhoaaGreatDoor
open Go.RowKit Pl

set_option maxHeartbeats 1000000 in
theorem specCarFault_any (h : Hs) (c : Cs) (w : World) :
    Calls Tryz.prog 47 #[.agg #[.int .i64 h.fl, .int .i64 h.gp, .int .i64 h.ln, .int .i64 h.rf, .int .i64 h.sp, .int .i64 h.pu, .int .i64 h.br, .int .i64 h.dr, .int .i64 h.lv, .int .i64 h.dO, .int .i64 h.ld, .int .i64 h.qu], .agg #[.int .i64 c.pos, .int .i64 c.vel, .int .i64 c.door]] w fun e w' => e = .returned (.int .i64 (h.car c)) ∧ Below w.heap.size w w' := by
  have F0 : Hid (HAt ((w.alloc (.cells #[.int .i64 h.fl, .int .i64 h.gp, .int .i64 h.ln, .int .i64 h.rf, .int .i64 h.sp, .int .i64 h.pu, .int .i64 h.br, .int .i64 h.dr, .int .i64 h.lv, .int .i64 h.dO, .int .i64 h.ld, .int .i64 h.qu] 32)).alloc (.cells #[.int .i64 c.pos, .int .i64 c.vel, .int .i64 c.door] 47)) w.heap.size h) := (HAt.at_ w h _ _ (by simp)).alloc _
  have F1 : Hid (CW ((w.alloc (.cells #[.int .i64 h.fl, .int .i64 h.gp, .int .i64 h.ln, .int .i64 h.rf, .int .i64 h.sp, .int .i64 h.pu, .int .i64 h.br, .int .i64 h.dr, .int .i64 h.lv, .int .i64 h.dO, .int .i64 h.ld, .int .i64 h.qu] 32)).alloc (.cells #[.int .i64 c.pos, .int .i64 c.vel, .int .i64 c.door] 47)) (w.heap.size + 1) c) := CW.at_ (w.alloc (.cells #[.int .i64 h.fl, .int .i64 h.gp, .int .i64 h.ln, .int .i64 h.rf, .int .i64 h.sp, .int .i64 h.pu, .int .i64 h.br, .int .i64 h.dr, .int .i64 h.lv, .int .i64 h.dO, .int .i64 h.ld, .int .i64 h.qu] 32)) c _ _ (by simp)
  have FB : Hid (Below w.heap.size w ((w.alloc (.cells #[.int .i64 h.fl, .int .i64 h.gp, .int .i64 h.ln, .int .i64 h.rf, .int .i64 h.sp, .int .i64 h.pu, .int .i64 h.br, .int .i64 h.dr, .int .i64 h.lv, .int .i64 h.dO, .int .i64 h.ld, .int .i64 h.qu] 32)).alloc (.cells #[.int .i64 c.pos, .int .i64 c.vel, .int .i64 c.door] 47))) := (((Below.refl _ _).alloc (Nat.le_refl _) _).alloc (by simp <;> omega) _)
  by_cases hf : h.fault = 0
  · have HO : Hid h.Ok := Hs.ok_of (Hs.fault_zero hf).1
    have HE : Hid (h.car c = h.carC c) := Hs.car_ok hf
    go_enter Tryz.func47, Tryz.ntmps47
    go_wp2_with (first | (go_at_call 28; refine (specFault_any h _).mono ?_; rw [hf]; rintro e w1 ⟨rfl, hb⟩; have F0 : Hid (HAt w1 w.heap.size h) := F0.out.below hb F0.out.lt; have F1 : Hid (CW w1 (w.heap.size + 1) c) := F1.out.below hb F1.out.lt; have FB : Hid (Below w.heap.size w w1) := FB.out.trans (hb.mono FB.out.size); obtain ⟨x0_0, x0_1, x0_2, x0_3, x0_4, x0_5, x0_6, x0_7, x0_8, x0_9, x0_10, x0_11⟩ := F0.out; obtain ⟨x1_0, x1_1, x1_2, y1_0, y1_1, y1_2⟩ := F1.out; clear hb) | (go_at_call 72; refine (l3Car_any h HO.out c _).mono ?_; rintro e w2 ⟨rfl, hb⟩; have F0 : Hid (HAt w2 w.heap.size h) := F0.out.below hb F0.out.lt; have F1 : Hid (CW w2 (w.heap.size + 1) c) := F1.out.below hb F1.out.lt; have FB : Hid (Below w.heap.size w w2) := FB.out.trans (hb.mono FB.out.size); obtain ⟨x0_0, x0_1, x0_2, x0_3, x0_4, x0_5, x0_6, x0_7, x0_8, x0_9, x0_10, x0_11⟩ := F0.out; obtain ⟨x1_0, x1_1, x1_2, y1_0, y1_1, y1_2⟩ := F1.out; clear hb))
    go_ret
    exact ⟨ret_int HE.out.symm, FB.out⟩
  · have hn : (h.fault != 0) = true := by simpa using hf
    have HE : Hid (h.car c = h.fault) := Hs.car_house hf
    clear hf
    go_enter Tryz.func47, Tryz.ntmps47
    go_wp2_with (go_at_call 28; refine (specFault_any h _).mono ?_; rintro e w1 ⟨rfl, hb⟩; have F0 : Hid (HAt w1 w.heap.size h) := F0.out.below hb F0.out.lt; have F1 : Hid (CW w1 (w.heap.size + 1) c) := F1.out.below hb F1.out.lt; have FB : Hid (Below w.heap.size w w1) := FB.out.trans (hb.mono FB.out.size); obtain ⟨x0_0, x0_1, x0_2, x0_3, x0_4, x0_5, x0_6, x0_7, x0_8, x0_9, x0_10, x0_11⟩ := F0.out; obtain ⟨x1_0, x1_1, x1_2, y1_0, y1_1, y1_2⟩ := F1.out; clear hb)
    go_ret
    exact ⟨ret_int HE.out.symm, FB.out⟩

theorem l3High_any (h : Hs) (o : h.Ok) (p v : Int) (p1 : -100000000 ≤ p) (p2 : p ≤ 100000000) (v1 : -500 ≤ v) (v2 : v ≤ 500) (w : World) :
    Calls Tryz.prog 49 #[.agg #[.int .i64 h.fl, .int .i64 h.gp, .int .i64 h.ln, .int .i64 h.rf, .int .i64 h.sp, .int .i64 h.pu, .int .i64 h.br, .int .i64 h.dr, .int .i64 h.lv, .int .i64 h.dO, .int .i64 h.ld, .int .i64 h.qu], .int .i64 p, .int .i64 v] w fun e w' => e = .returned (.int .i64 (h.hi p v)) ∧ Below w.heap.size w w' := by
  have b1 := o.pu1; have b2 := o.br1; have b3 := o.br2
  clear o
  by_cases c : 0 < v
  · obtain ⟨s1, s2⟩ := stop_small v h.br (by omega) v2 (by omega)
    have HE : Hid (h.hi p v = p + stopP v h.br) := by unfold Hs.hi; rw [if_pos c]; exact rfl
    go_enter Tryz.func49, Tryz.ntmps49
    go_wp2_with (go_at_call 71; refine (l1Stop_any _ _ (by omega) (by omega) (by omega) (by omega) _).mono ?_; rintro e w' ⟨rfl, rfl⟩)
    go_ret
    exact ⟨ret_int HE.out.symm, (Below.refl _ _).alloc (Nat.le_refl _) _⟩
  · have HE : Hid (h.hi p v = p) := by unfold Hs.hi; rw [if_neg c]; exact rfl
    go_enter Tryz.func49, Tryz.ntmps49
    go_wp2
    go_ret
    exact ⟨ret_int HE.out.symm, (Below.refl _ _).alloc (Nat.le_refl _) _⟩
theorem l3Low_any (h : Hs) (o : h.Ok) (p v : Int) (p1 : -100000000 ≤ p) (p2 : p ≤ 100000000) (v1 : -500 ≤ v) (v2 : v ≤ 500) (w : World) :
    Calls Tryz.prog 48 #[.agg #[.int .i64 h.fl, .int .i64 h.gp, .int .i64 h.ln, .int .i64 h.rf, .int .i64 h.sp, .int .i64 h.pu, .int .i64 h.br, .int .i64 h.dr, .int .i64 h.lv, .int .i64 h.dO, .int .i64 h.ld, .int .i64 h.qu], .int .i64 p, .int .i64 v] w fun e w' => e = .returned (.int .i64 (h.lo p v)) ∧ Below w.heap.size w w' := by
  have b1 := o.pu1; have b2 := o.br1; have b3 := o.br2
  clear o
  by_cases c : v < 0
  · obtain ⟨s1, s2⟩ := stop_small (-v) h.br (by omega) (by omega) (by omega)
    have HE : Hid (h.lo p v = p - stopP (-v) h.br) := by unfold Hs.lo; rw [if_pos c]; exact rfl
    go_enter Tryz.func48, Tryz.ntmps48
    go_wp2_with (go_at_call 71; refine (l1Stop_any _ _ (by omega) (by omega) (by omega) (by omega) _).mono ?_; rintro e w' ⟨rfl, rfl⟩)
    go_ret
    exact ⟨ret_int HE.out.symm, (Below.refl _ _).alloc (Nat.le_refl _) _⟩
  · have HE : Hid (h.lo p v = p) := by unfold Hs.lo; rw [if_neg c]; exact rfl
    go_enter Tryz.func48, Tryz.ntmps48
    go_wp2
    go_ret
    exact ⟨ret_int HE.out.symm, (Below.refl _ _).alloc (Nat.le_refl _) _⟩

end Go.Proofs.YtnfdplfifpmhoaaGreatDoor
