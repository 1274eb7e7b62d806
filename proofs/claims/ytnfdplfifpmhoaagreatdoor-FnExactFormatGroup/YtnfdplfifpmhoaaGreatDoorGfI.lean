/-
  The program's group: what is asked of it.
-/
import Derived.Test.YtnfdplfifpmhoaaGreatDoorGrpD
import Derived.Test.YtnfdplfifpmhoaaGreatDoorCarK
import Derived.Test.YtnfdplfifpmhoaaGreatDoorFnd
import Derived.Test.YtnfdplfifpmhoaaGreatDoorLedP
import Derived.Test.YtnfdplfifpmhoaaGreatDoorGfS
import Derived.BigGuardPart
import Derived.Deep.DeepCutAuto
import Derived.Test.YtnfdplfifpmhoaaGreatDoorLedD
import Derived.Test.YtnfdplfifpmhoaaGreatDoorPersI
import Derived.Test.YtnfdplfifpmhoaaGreatDoorLedA
import Derived.Test.YtnfdplfifpmhoaaGreatDoorCellsN
import Derived.Test.YtnfdplfifpmhoaaGreatDoorCellsS
import Derived.Test.YtnfdplfifpmhoaaGreatDoorHouseG
namespace Go.Proofs.YtnfdplfifpmhoaaGreatDoor
open Go.RowKit Pl
set_option linter.unusedSimpArgs false
set_option linter.unusedVariables false

set_option maxRecDepth 20000 in
set_option maxHeartbeats 8000000 in
theorem hasPlaces_any (h : Hs) (m : Sp) (w : World) :
    Calls Tryz.prog 86 #[.agg #[.int .i64 h.fl, .int .i64 h.gp, .int .i64 h.ln, .int .i64 h.rf, .int .i64 h.sp, .int .i64 h.pu, .int .i64 h.br, .int .i64 h.dr, .int .i64 h.lv, .int .i64 h.dO, .int .i64 h.ld, .int .i64 h.qu], .agg #[.int .i64 m.lo, .int .i64 m.hi]] w fun e w' => e = .returned (.bool (inB m.lo (-1) h.fl && inB m.hi (-1) h.fl)) ∧ Below w.heap.size w w' := by
  have F0 : Hid (HAt ((w.alloc (.cells #[.int .i64 h.fl, .int .i64 h.gp, .int .i64 h.ln, .int .i64 h.rf, .int .i64 h.sp, .int .i64 h.pu, .int .i64 h.br, .int .i64 h.dr, .int .i64 h.lv, .int .i64 h.dO, .int .i64 h.ld, .int .i64 h.qu] 32)).alloc (.cells #[.int .i64 m.lo, .int .i64 m.hi] 51)) w.heap.size h) := (HAt.at_ w h _ _ (by simp)).alloc _
  have F1 : Hid (MW ((w.alloc (.cells #[.int .i64 h.fl, .int .i64 h.gp, .int .i64 h.ln, .int .i64 h.rf, .int .i64 h.sp, .int .i64 h.pu, .int .i64 h.br, .int .i64 h.dr, .int .i64 h.lv, .int .i64 h.dO, .int .i64 h.ld, .int .i64 h.qu] 32)).alloc (.cells #[.int .i64 m.lo, .int .i64 m.hi] 51)) (w.heap.size + 1) m) := MW.at_ (w.alloc (.cells #[.int .i64 h.fl, .int .i64 h.gp, .int .i64 h.ln, .int .i64 h.rf, .int .i64 h.sp, .int .i64 h.pu, .int .i64 h.br, .int .i64 h.dr, .int .i64 h.lv, .int .i64 h.dO, .int .i64 h.ld, .int .i64 h.qu] 32)) m _ _ (by simp)
  have FB : Hid (Below w.heap.size w ((w.alloc (.cells #[.int .i64 h.fl, .int .i64 h.gp, .int .i64 h.ln, .int .i64 h.rf, .int .i64 h.sp, .int .i64 h.pu, .int .i64 h.br, .int .i64 h.dr, .int .i64 h.lv, .int .i64 h.dO, .int .i64 h.ld, .int .i64 h.qu] 32)).alloc (.cells #[.int .i64 m.lo, .int .i64 m.hi] 51))) := (((Below.refl _ _).alloc (Nat.le_refl _) _).alloc (by simp <;> omega) _)
  cases n1 : inB m.lo (-1) h.fl
  all_goals
    go_enter Tryz.func86, Tryz.ntmps86
    go_wp2_with (go_at_call 102; refine (hasPlace_any h _ _).mono ?_; rintro e w1 ⟨rfl, hb⟩; have F0 : Hid (HAt w1 w.heap.size h) := F0.out.below hb F0.out.lt; have F1 : Hid (MW w1 (w.heap.size + 1) m) := F1.out.below hb F1.out.lt; have FB : Hid (Below w.heap.size w w1) := FB.out.trans (hb.mono FB.out.size); obtain ⟨x0_0, x0_1, x0_2, x0_3, x0_4, x0_5, x0_6, x0_7, x0_8, x0_9, x0_10, x0_11⟩ := F0.out; obtain ⟨x1_0, x1_1, y1_0, y1_1⟩ := F1.out; clear hb)
    go_ret
    exact ⟨ret_bool (by simp), FB.out⟩
set_option maxRecDepth 20000 in
set_option maxHeartbeats 8000000 in
theorem implSpansFault_any (h : Hs) (x : Ss) (w : World) :
    Calls Tryz.prog 63 #[.agg #[.int .i64 h.fl, .int .i64 h.gp, .int .i64 h.ln, .int .i64 h.rf, .int .i64 h.sp, .int .i64 h.pu, .int .i64 h.br, .int .i64 h.dr, .int .i64 h.lv, .int .i64 h.dO, .int .i64 h.ld, .int .i64 h.qu], .agg #[.int .i64 x.l.lo, .int .i64 x.l.hi, .int .i64 x.u.lo, .int .i64 x.u.hi]] w fun e w' => e = .returned (.int .i64 (Hs.spans h x)) ∧ Below w.heap.size w w' := by
  unfold Hs.spans
  have F0 : Hid (HAt ((w.alloc (.cells #[.int .i64 h.fl, .int .i64 h.gp, .int .i64 h.ln, .int .i64 h.rf, .int .i64 h.sp, .int .i64 h.pu, .int .i64 h.br, .int .i64 h.dr, .int .i64 h.lv, .int .i64 h.dO, .int .i64 h.ld, .int .i64 h.qu] 32)).alloc (.cells #[.int .i64 x.l.lo, .int .i64 x.l.hi, .int .i64 x.u.lo, .int .i64 x.u.hi] 53)) w.heap.size h) := (HAt.at_ w h _ _ (by simp)).alloc _
  have F1 : Hid (NW ((w.alloc (.cells #[.int .i64 h.fl, .int .i64 h.gp, .int .i64 h.ln, .int .i64 h.rf, .int .i64 h.sp, .int .i64 h.pu, .int .i64 h.br, .int .i64 h.dr, .int .i64 h.lv, .int .i64 h.dO, .int .i64 h.ld, .int .i64 h.qu] 32)).alloc (.cells #[.int .i64 x.l.lo, .int .i64 x.l.hi, .int .i64 x.u.lo, .int .i64 x.u.hi] 53)) (w.heap.size + 1) x) := NW.at_ (w.alloc (.cells #[.int .i64 h.fl, .int .i64 h.gp, .int .i64 h.ln, .int .i64 h.rf, .int .i64 h.sp, .int .i64 h.pu, .int .i64 h.br, .int .i64 h.dr, .int .i64 h.lv, .int .i64 h.dO, .int .i64 h.ld, .int .i64 h.qu] 32)) x _ _ (by simp)
  have FB : Hid (Below w.heap.size w ((w.alloc (.cells #[.int .i64 h.fl, .int .i64 h.gp, .int .i64 h.ln, .int .i64 h.rf, .int .i64 h.sp, .int .i64 h.pu, .int .i64 h.br, .int .i64 h.dr, .int .i64 h.lv, .int .i64 h.dO, .int .i64 h.ld, .int .i64 h.qu] 32)).alloc (.cells #[.int .i64 x.l.lo, .int .i64 x.l.hi, .int .i64 x.u.lo, .int .i64 x.u.hi] 53))) := (((Below.refl _ _).alloc (Nat.le_refl _) _).alloc (by simp <;> omega) _)
  by_cases hf : h.fault = 0
  · rw [if_pos hf]
    cases n1 : (inB x.l.lo (-1) h.fl && inB x.l.hi (-1) h.fl)
    · have hr : Hs.spanR h x = false := by
        unfold Hs.spanR
        rw [← Bool.and_assoc, n1, Bool.false_and]
      go_enter Tryz.func63, Tryz.ntmps63
      go_wp2_with (first | (go_at_call 37; refine (implFault_any h _).mono ?_; rw [hf]; rintro e w1 ⟨rfl, hb⟩; have F0 : Hid (HAt w1 w.heap.size h) := F0.out.below hb F0.out.lt; have F1 : Hid (NW w1 (w.heap.size + 1) x) := F1.out.below hb F1.out.lt; have FB : Hid (Below w.heap.size w w1) := FB.out.trans (hb.mono FB.out.size); obtain ⟨x0_0, x0_1, x0_2, x0_3, x0_4, x0_5, x0_6, x0_7, x0_8, x0_9, x0_10, x0_11⟩ := F0.out; obtain ⟨x1_0, x1_1, x1_2, x1_3, y1_0, y1_1, y1_2, y1_3⟩ := F1.out; clear hb) | (go_at_call 86; refine (hasPlaces_any h ⟨_, _⟩ _).mono ?_; rintro e w2 ⟨rfl, hb⟩; have F0 : Hid (HAt w2 w.heap.size h) := F0.out.below hb F0.out.lt; have F1 : Hid (NW w2 (w.heap.size + 1) x) := F1.out.below hb F1.out.lt; have FB : Hid (Below w.heap.size w w2) := FB.out.trans (hb.mono FB.out.size); obtain ⟨x0_0, x0_1, x0_2, x0_3, x0_4, x0_5, x0_6, x0_7, x0_8, x0_9, x0_10, x0_11⟩ := F0.out; obtain ⟨x1_0, x1_1, x1_2, x1_3, y1_0, y1_1, y1_2, y1_3⟩ := F1.out; clear hb))
      go_ret
      exact ⟨ret_int (by simp [Hs.spanC, hr]), FB.out⟩
    · cases n2 : (inB x.u.lo (-1) h.fl && inB x.u.hi (-1) h.fl)
      · have hr : Hs.spanR h x = false := by
          unfold Hs.spanR
          rw [← Bool.and_assoc, n1, n2, Bool.true_and]
        go_enter Tryz.func63, Tryz.ntmps63
        go_wp2_with (first | (go_at_call 37; refine (implFault_any h _).mono ?_; rw [hf]; rintro e w1 ⟨rfl, hb⟩; have F0 : Hid (HAt w1 w.heap.size h) := F0.out.below hb F0.out.lt; have F1 : Hid (NW w1 (w.heap.size + 1) x) := F1.out.below hb F1.out.lt; have FB : Hid (Below w.heap.size w w1) := FB.out.trans (hb.mono FB.out.size); obtain ⟨x0_0, x0_1, x0_2, x0_3, x0_4, x0_5, x0_6, x0_7, x0_8, x0_9, x0_10, x0_11⟩ := F0.out; obtain ⟨x1_0, x1_1, x1_2, x1_3, y1_0, y1_1, y1_2, y1_3⟩ := F1.out; clear hb) | (go_at_call 86; refine (hasPlaces_any h ⟨_, _⟩ _).mono ?_; rintro e w2 ⟨rfl, hb⟩; have F0 : Hid (HAt w2 w.heap.size h) := F0.out.below hb F0.out.lt; have F1 : Hid (NW w2 (w.heap.size + 1) x) := F1.out.below hb F1.out.lt; have FB : Hid (Below w.heap.size w w2) := FB.out.trans (hb.mono FB.out.size); obtain ⟨x0_0, x0_1, x0_2, x0_3, x0_4, x0_5, x0_6, x0_7, x0_8, x0_9, x0_10, x0_11⟩ := F0.out; obtain ⟨x1_0, x1_1, x1_2, x1_3, y1_0, y1_1, y1_2, y1_3⟩ := F1.out; clear hb))
        go_ret
        exact ⟨ret_int (by simp [Hs.spanC, hr]), FB.out⟩
      · have hr : Hs.spanR h x = true := by
          unfold Hs.spanR
          rw [← Bool.and_assoc, n1, n2, Bool.true_and]
        go_enter Tryz.func63, Tryz.ntmps63
        go_wp2_with (first | (go_at_call 37; refine (implFault_any h _).mono ?_; rw [hf]; rintro e w1 ⟨rfl, hb⟩; have F0 : Hid (HAt w1 w.heap.size h) := F0.out.below hb F0.out.lt; have F1 : Hid (NW w1 (w.heap.size + 1) x) := F1.out.below hb F1.out.lt; have FB : Hid (Below w.heap.size w w1) := FB.out.trans (hb.mono FB.out.size); obtain ⟨x0_0, x0_1, x0_2, x0_3, x0_4, x0_5, x0_6, x0_7, x0_8, x0_9, x0_10, x0_11⟩ := F0.out; obtain ⟨x1_0, x1_1, x1_2, x1_3, y1_0, y1_1, y1_2, y1_3⟩ := F1.out; clear hb) | (go_at_call 86; refine (hasPlaces_any h ⟨_, _⟩ _).mono ?_; rintro e w2 ⟨rfl, hb⟩; have F0 : Hid (HAt w2 w.heap.size h) := F0.out.below hb F0.out.lt; have F1 : Hid (NW w2 (w.heap.size + 1) x) := F1.out.below hb F1.out.lt; have FB : Hid (Below w.heap.size w w2) := FB.out.trans (hb.mono FB.out.size); obtain ⟨x0_0, x0_1, x0_2, x0_3, x0_4, x0_5, x0_6, x0_7, x0_8, x0_9, x0_10, x0_11⟩ := F0.out; obtain ⟨x1_0, x1_1, x1_2, x1_3, y1_0, y1_1, y1_2, y1_3⟩ := F1.out; clear hb))
        all_goals
          go_ret
          exact ⟨ret_int (by simp [Hs.spanC, hr, spanB, *]), FB.out⟩
  · rw [if_neg hf]
    have hn : (h.fault != 0) = true := by simpa using hf
    clear hf
    go_enter Tryz.func63, Tryz.ntmps63
    go_wp2_with (go_at_call 37; refine (implFault_any h _).mono ?_; rintro e w1 ⟨rfl, hb⟩; have F0 : Hid (HAt w1 w.heap.size h) := F0.out.below hb F0.out.lt; have F1 : Hid (NW w1 (w.heap.size + 1) x) := F1.out.below hb F1.out.lt; have FB : Hid (Below w.heap.size w w1) := FB.out.trans (hb.mono FB.out.size); obtain ⟨x0_0, x0_1, x0_2, x0_3, x0_4, x0_5, x0_6, x0_7, x0_8, x0_9, x0_10, x0_11⟩ := F0.out; obtain ⟨x1_0, x1_1, x1_2, x1_3, y1_0, y1_1, y1_2, y1_3⟩ := F1.out; clear hb)
    go_ret
    exact ⟨rfl, FB.out⟩
end Go.Proofs.YtnfdplfifpmhoaaGreatDoor

namespace Go.Proofs.YtnfdplfifpmhoaaGreatDoor
open Go.RowKit Pl
set_option linter.unusedSimpArgs false
set_option linter.unusedVariables false

set_option maxRecDepth 20000 in
set_option maxHeartbeats 16000000 in
theorem personFault_any (h : Hs) (hf : h.fault = 0) (p : Pe) (ahead nx : Int) (n1 : 1 ≤ nx) (n2 : nx ≤ 1000000000000000) (w : World) :
    Calls Tryz.prog 65 #[.agg #[.int .i64 h.fl, .int .i64 h.gp, .int .i64 h.ln, .int .i64 h.rf, .int .i64 h.sp, .int .i64 h.pu, .int .i64 h.br, .int .i64 h.dr, .int .i64 h.lv, .int .i64 h.dO, .int .i64 h.ld, .int .i64 h.qu], .agg #[.int .i64 p.id, .int .i64 p.fr, .int .i64 p.tw, .int .i64 p.sh, .int .i64 p.ca, .int .i64 p.st, .int .i64 p.pl], .int .i64 ahead, .int .i64 nx] w fun e w' => e = .returned (.int .i64 (Hs.pers h nx ahead p)) ∧ Below w.heap.size w w' := by
  obtain ⟨r, hr⟩ : ∃ r, Hs.pers h nx ahead p = r := ⟨_, rfl⟩
  rw [hr]
  unfold Hs.pers Hs.persC at hr
  have oo := Hs.ok_of (Hs.fault_zero hf).1
  have f1 := oo.fl1; have f2 := oo.fl2
  clear oo
  have ex : IntKind.i64.wrap (nx - 1) = nx - 1 := IntWalk.i64_in _ (by omega)
  obtain ⟨c, hc⟩ : ∃ c, Hs.callC h p.fr p.tw = c := ⟨_, rfl⟩
  rw [hc] at hr
  have HC : Hid (Hs.callC h p.fr p.tw = c) := hc
  clear hc
  have F0 : Hid (HAt ((w.alloc (.cells #[.int .i64 h.fl, .int .i64 h.gp, .int .i64 h.ln, .int .i64 h.rf, .int .i64 h.sp, .int .i64 h.pu, .int .i64 h.br, .int .i64 h.dr, .int .i64 h.lv, .int .i64 h.dO, .int .i64 h.ld, .int .i64 h.qu] 32)).alloc (.cells #[.int .i64 p.id, .int .i64 p.fr, .int .i64 p.tw, .int .i64 p.sh, .int .i64 p.ca, .int .i64 p.st, .int .i64 p.pl] 58)) w.heap.size h) := (HAt.new w h _).below ((Below.refl _ _).alloc (Nat.le_refl _) _) (by simp)
  have F1 : Hid (P7 ((w.alloc (.cells #[.int .i64 h.fl, .int .i64 h.gp, .int .i64 h.ln, .int .i64 h.rf, .int .i64 h.sp, .int .i64 h.pu, .int .i64 h.br, .int .i64 h.dr, .int .i64 h.lv, .int .i64 h.dO, .int .i64 h.ld, .int .i64 h.qu] 32)).alloc (.cells #[.int .i64 p.id, .int .i64 p.fr, .int .i64 p.tw, .int .i64 p.sh, .int .i64 p.ca, .int .i64 p.st, .int .i64 p.pl] 58)) (w.heap.size + 1) 0 p) := P7.at_ _ p _ _ (by simp)
  have FB : Hid (Below w.heap.size w ((w.alloc (.cells #[.int .i64 h.fl, .int .i64 h.gp, .int .i64 h.ln, .int .i64 h.rf, .int .i64 h.sp, .int .i64 h.pu, .int .i64 h.br, .int .i64 h.dr, .int .i64 h.lv, .int .i64 h.dO, .int .i64 h.ld, .int .i64 h.qu] 32)).alloc (.cells #[.int .i64 p.id, .int .i64 p.fr, .int .i64 p.tw, .int .i64 p.sh, .int .i64 p.ca, .int .i64 p.st, .int .i64 p.pl] 58))) := ((Below.refl _ _).alloc (Nat.le_refl _) _).alloc (by simp) _
  cases k1 : inB p.id 1 (nx - 1)
  · rw [k1, if_neg (by simp)] at hr
    have HR : Hid ((3 : Int) = r) := hr
    clear hr
    go_enter Tryz.func65, Tryz.ntmps65
    go_wp2_with (go_at_call 38; refine (isWithin_any _ _ _ _).mono ?_; rintro e w' ⟨rfl, hw⟩; obtain rfl := hw.symm; clear hw)
    go_ret
    exact ⟨ret_int HR.out, FB.out⟩
  rw [k1, if_pos rfl] at hr
  by_cases k2 : p.id ≤ ahead
  · rw [if_pos k2] at hr
    have HR : Hid ((1 : Int) = r) := hr
    clear hr
    have b2 : decide (p.id ≤ ahead) = true := decide_eq_true k2
    go_enter Tryz.func65, Tryz.ntmps65
    go_wp2_with (go_at_call 38; refine (isWithin_any _ _ _ _).mono ?_; rintro e w' ⟨rfl, hw⟩; obtain rfl := hw.symm; clear hw)
    go_ret
    exact ⟨ret_int HR.out, FB.out⟩
  rw [if_neg k2] at hr
  have b2 : decide (p.id ≤ ahead) = false := decide_eq_false k2
  clear k2
  by_cases c0 : c = 0
  case neg =>
    rw [if_neg c0] at hr
    have HR : Hid (c = r) := hr
    have bn : (c != 0) = true := by simpa using c0
    clear hr c0
    go_enter Tryz.func65, Tryz.ntmps65
    go_wp2_with (first | (go_at_call 38; refine (isWithin_any _ _ _ _).mono ?_; rintro e w' ⟨rfl, hw⟩; obtain rfl := hw.symm; clear hw) | (go_at_call 87; refine (wayFault_any h (by omega) (by omega) p.fr p.tw _).mono ?_; rw [HC.out]; rintro e w1 ⟨rfl, hb⟩; have F0 : Hid (HAt w1 w.heap.size h) := F0.out.below hb F0.out.lt; have F1 : Hid (P7 w1 (w.heap.size + 1) 0 p) := F1.out.below hb F1.out.lt; have FB : Hid (Below w.heap.size w w1) := FB.out.trans (hb.mono FB.out.size); clear hb; obtain ⟨x0_0, x0_1, x0_2, x0_3, x0_4, x0_5, x0_6, x0_7, x0_8, x0_9, x0_10, x0_11⟩ := F0.out; obtain ⟨z0, z1, z2, z3, z4, z5, z6⟩ := F1.out))
    go_ret
    exact ⟨ret_int HR.out, FB.out⟩
  subst c0
  rw [if_pos rfl] at hr
  unfold inP at hr
  cases k3 : inB p.sh 0 2
  · rw [k3, if_neg (by simp)] at hr
    have HR : Hid ((3 : Int) = r) := hr
    clear hr
    have q3 : (inB p.sh 0 2 && inB p.ca 0 1) = false := by rw [k3]; exact rfl
    go_enter Tryz.func65, Tryz.ntmps65
    go_wp2_with (first | (go_at_call 38; refine (isWithin_any _ _ _ _).mono ?_; rintro e w' ⟨rfl, hw⟩; obtain rfl := hw.symm; clear hw) | (go_at_call 87; refine (wayFault_any h (by omega) (by omega) p.fr p.tw _).mono ?_; rw [HC.out]; rintro e w1 ⟨rfl, hb⟩; have F0 : Hid (HAt w1 w.heap.size h) := F0.out.below hb F0.out.lt; have F1 : Hid (P7 w1 (w.heap.size + 1) 0 p) := F1.out.below hb F1.out.lt; have FB : Hid (Below w.heap.size w w1) := FB.out.trans (hb.mono FB.out.size); clear hb; obtain ⟨x0_0, x0_1, x0_2, x0_3, x0_4, x0_5, x0_6, x0_7, x0_8, x0_9, x0_10, x0_11⟩ := F0.out; obtain ⟨z0, z1, z2, z3, z4, z5, z6⟩ := F1.out) | (go_at_call 88; refine (isCar_any _ _ _).mono ?_; rintro e w' ⟨rfl, hw⟩; obtain rfl := hw.symm; clear hw))
    go_ret
    exact ⟨ret_int HR.out, FB.out⟩
  cases k4 : inB p.ca 0 1
  · rw [k3, k4, if_neg (by simp)] at hr
    have HR : Hid ((3 : Int) = r) := hr
    clear hr
    go_enter Tryz.func65, Tryz.ntmps65
    go_wp2_with (first | (go_at_call 38; refine (isWithin_any _ _ _ _).mono ?_; rintro e w' ⟨rfl, hw⟩; obtain rfl := hw.symm; clear hw) | (go_at_call 87; refine (wayFault_any h (by omega) (by omega) p.fr p.tw _).mono ?_; rw [HC.out]; rintro e w1 ⟨rfl, hb⟩; have F0 : Hid (HAt w1 w.heap.size h) := F0.out.below hb F0.out.lt; have F1 : Hid (P7 w1 (w.heap.size + 1) 0 p) := F1.out.below hb F1.out.lt; have FB : Hid (Below w.heap.size w w1) := FB.out.trans (hb.mono FB.out.size); clear hb; obtain ⟨x0_0, x0_1, x0_2, x0_3, x0_4, x0_5, x0_6, x0_7, x0_8, x0_9, x0_10, x0_11⟩ := F0.out; obtain ⟨z0, z1, z2, z3, z4, z5, z6⟩ := F1.out) | (go_at_call 88; refine (isCar_any _ _ _).mono ?_; rintro e w' ⟨rfl, hw⟩; obtain rfl := hw.symm; clear hw))
    go_ret
    exact ⟨ret_int HR.out, FB.out⟩
  cases k5 : inB p.st 0 4
  · rw [k3, k4, k5, if_neg (by simp)] at hr
    have HR : Hid ((3 : Int) = r) := hr
    clear hr
    go_enter Tryz.func65, Tryz.ntmps65
    go_wp2_with (first | (go_at_call 38; refine (isWithin_any _ _ _ _).mono ?_; rintro e w' ⟨rfl, hw⟩; obtain rfl := hw.symm; clear hw) | (go_at_call 87; refine (wayFault_any h (by omega) (by omega) p.fr p.tw _).mono ?_; rw [HC.out]; rintro e w1 ⟨rfl, hb⟩; have F0 : Hid (HAt w1 w.heap.size h) := F0.out.below hb F0.out.lt; have F1 : Hid (P7 w1 (w.heap.size + 1) 0 p) := F1.out.below hb F1.out.lt; have FB : Hid (Below w.heap.size w w1) := FB.out.trans (hb.mono FB.out.size); clear hb; obtain ⟨x0_0, x0_1, x0_2, x0_3, x0_4, x0_5, x0_6, x0_7, x0_8, x0_9, x0_10, x0_11⟩ := F0.out; obtain ⟨z0, z1, z2, z3, z4, z5, z6⟩ := F1.out) | (go_at_call 88; refine (isCar_any _ _ _).mono ?_; rintro e w' ⟨rfl, hw⟩; obtain rfl := hw.symm; clear hw))
    go_ret
    exact ⟨ret_int HR.out, FB.out⟩
  have s5 := inB_iff.1 k5
  cases k6 : inB p.pl 0 (h.fl - 1)
  · rw [k3, k4, k5, k6, if_neg (by simp)] at hr
    have HR : Hid ((3 : Int) = r) := hr
    clear hr
    go_enter Tryz.func65, Tryz.ntmps65
    go_wp2_with (first | (go_at_call 38; refine (isWithin_any _ _ _ _).mono ?_; rintro e w' ⟨rfl, hw⟩; obtain rfl := hw.symm; clear hw) | (go_at_call 87; refine (wayFault_any h (by omega) (by omega) p.fr p.tw _).mono ?_; rw [HC.out]; rintro e w1 ⟨rfl, hb⟩; have F0 : Hid (HAt w1 w.heap.size h) := F0.out.below hb F0.out.lt; have F1 : Hid (P7 w1 (w.heap.size + 1) 0 p) := F1.out.below hb F1.out.lt; have FB : Hid (Below w.heap.size w w1) := FB.out.trans (hb.mono FB.out.size); clear hb; obtain ⟨x0_0, x0_1, x0_2, x0_3, x0_4, x0_5, x0_6, x0_7, x0_8, x0_9, x0_10, x0_11⟩ := F0.out; obtain ⟨z0, z1, z2, z3, z4, z5, z6⟩ := F1.out) | (go_at_call 88; refine (isCar_any _ _ _).mono ?_; rintro e w' ⟨rfl, hw⟩; obtain rfl := hw.symm; clear hw) | (go_at_call 89; refine (isFloor_any h p.pl (by omega) (by omega) _).mono ?_; rintro e w2 ⟨rfl, hb⟩; have F0 : Hid (HAt w2 w.heap.size h) := F0.out.below hb F0.out.lt; have F1 : Hid (P7 w2 (w.heap.size + 1) 0 p) := F1.out.below hb F1.out.lt; have FB : Hid (Below w.heap.size w w2) := FB.out.trans (hb.mono FB.out.size); clear hb; obtain ⟨x0_0, x0_1, x0_2, x0_3, x0_4, x0_5, x0_6, x0_7, x0_8, x0_9, x0_10, x0_11⟩ := F0.out; obtain ⟨z0, z1, z2, z3, z4, z5, z6⟩ := F1.out))
    go_ret
    exact ⟨ret_int HR.out, FB.out⟩
  rw [k3, k4, k5, k6, if_pos (by simp)] at hr
  cases k7 : badAt p
  · rw [k7, if_neg (by simp)] at hr
    have HR : Hid ((0 : Int) = r) := hr
    clear hr
    go_enter Tryz.func65, Tryz.ntmps65
    go_wp2_with (first | (go_at_call 38; refine (isWithin_any _ _ _ _).mono ?_; rintro e w' ⟨rfl, hw⟩; obtain rfl := hw.symm; clear hw) | (go_at_call 87; refine (wayFault_any h (by omega) (by omega) p.fr p.tw _).mono ?_; rw [HC.out]; rintro e w1 ⟨rfl, hb⟩; have F0 : Hid (HAt w1 w.heap.size h) := F0.out.below hb F0.out.lt; have F1 : Hid (P7 w1 (w.heap.size + 1) 0 p) := F1.out.below hb F1.out.lt; have FB : Hid (Below w.heap.size w w1) := FB.out.trans (hb.mono FB.out.size); clear hb; obtain ⟨x0_0, x0_1, x0_2, x0_3, x0_4, x0_5, x0_6, x0_7, x0_8, x0_9, x0_10, x0_11⟩ := F0.out; obtain ⟨z0, z1, z2, z3, z4, z5, z6⟩ := F1.out) | (go_at_call 88; refine (isCar_any _ _ _).mono ?_; rintro e w' ⟨rfl, hw⟩; obtain rfl := hw.symm; clear hw) | (go_at_call 89; refine (isFloor_any h p.pl (by omega) (by omega) _).mono ?_; rintro e w2 ⟨rfl, hb⟩; have F0 : Hid (HAt w2 w.heap.size h) := F0.out.below hb F0.out.lt; have F1 : Hid (P7 w2 (w.heap.size + 1) 0 p) := F1.out.below hb F1.out.lt; have FB : Hid (Below w.heap.size w w2) := FB.out.trans (hb.mono FB.out.size); clear hb; obtain ⟨x0_0, x0_1, x0_2, x0_3, x0_4, x0_5, x0_6, x0_7, x0_8, x0_9, x0_10, x0_11⟩ := F0.out; obtain ⟨z0, z1, z2, z3, z4, z5, z6⟩ := F1.out) | (go_at_call 90; refine (isAtRight_any p (by omega) (by omega) _).mono ?_; rintro e w3 ⟨rfl, hb⟩; have F0 : Hid (HAt w3 w.heap.size h) := F0.out.below hb F0.out.lt; have F1 : Hid (P7 w3 (w.heap.size + 1) 0 p) := F1.out.below hb F1.out.lt; have FB : Hid (Below w.heap.size w w3) := FB.out.trans (hb.mono FB.out.size); clear hb; obtain ⟨x0_0, x0_1, x0_2, x0_3, x0_4, x0_5, x0_6, x0_7, x0_8, x0_9, x0_10, x0_11⟩ := F0.out; obtain ⟨z0, z1, z2, z3, z4, z5, z6⟩ := F1.out))
    go_ret
    exact ⟨ret_int HR.out, FB.out⟩
  · rw [k7, if_pos rfl] at hr
    have HR : Hid ((1 : Int) = r) := hr
    clear hr
    go_enter Tryz.func65, Tryz.ntmps65
    go_wp2_with (first | (go_at_call 38; refine (isWithin_any _ _ _ _).mono ?_; rintro e w' ⟨rfl, hw⟩; obtain rfl := hw.symm; clear hw) | (go_at_call 87; refine (wayFault_any h (by omega) (by omega) p.fr p.tw _).mono ?_; rw [HC.out]; rintro e w1 ⟨rfl, hb⟩; have F0 : Hid (HAt w1 w.heap.size h) := F0.out.below hb F0.out.lt; have F1 : Hid (P7 w1 (w.heap.size + 1) 0 p) := F1.out.below hb F1.out.lt; have FB : Hid (Below w.heap.size w w1) := FB.out.trans (hb.mono FB.out.size); clear hb; obtain ⟨x0_0, x0_1, x0_2, x0_3, x0_4, x0_5, x0_6, x0_7, x0_8, x0_9, x0_10, x0_11⟩ := F0.out; obtain ⟨z0, z1, z2, z3, z4, z5, z6⟩ := F1.out) | (go_at_call 88; refine (isCar_any _ _ _).mono ?_; rintro e w' ⟨rfl, hw⟩; obtain rfl := hw.symm; clear hw) | (go_at_call 89; refine (isFloor_any h p.pl (by omega) (by omega) _).mono ?_; rintro e w2 ⟨rfl, hb⟩; have F0 : Hid (HAt w2 w.heap.size h) := F0.out.below hb F0.out.lt; have F1 : Hid (P7 w2 (w.heap.size + 1) 0 p) := F1.out.below hb F1.out.lt; have FB : Hid (Below w.heap.size w w2) := FB.out.trans (hb.mono FB.out.size); clear hb; obtain ⟨x0_0, x0_1, x0_2, x0_3, x0_4, x0_5, x0_6, x0_7, x0_8, x0_9, x0_10, x0_11⟩ := F0.out; obtain ⟨z0, z1, z2, z3, z4, z5, z6⟩ := F1.out) | (go_at_call 90; refine (isAtRight_any p (by omega) (by omega) _).mono ?_; rintro e w3 ⟨rfl, hb⟩; have F0 : Hid (HAt w3 w.heap.size h) := F0.out.below hb F0.out.lt; have F1 : Hid (P7 w3 (w.heap.size + 1) 0 p) := F1.out.below hb F1.out.lt; have FB : Hid (Below w.heap.size w w3) := FB.out.trans (hb.mono FB.out.size); clear hb; obtain ⟨x0_0, x0_1, x0_2, x0_3, x0_4, x0_5, x0_6, x0_7, x0_8, x0_9, x0_10, x0_11⟩ := F0.out; obtain ⟨z0, z1, z2, z3, z4, z5, z6⟩ := F1.out))
    go_ret
    exact ⟨ret_int HR.out, FB.out⟩
end Go.Proofs.YtnfdplfifpmhoaaGreatDoor

namespace Go.Proofs.YtnfdplfifpmhoaaGreatDoor
open Go.RowKit Pl
set_option linter.unusedSimpArgs false
set_option linter.unusedVariables false

theorem lastId_next {l : List Pe} {i : Nat} {p : Pe} (h : l[i]? = some p) : lastId l (i + 1) = p.id := by
  show (match l[i]? with | some q => q.id | none => 0) = _
  rw [h]
theorem pers_parts {h : Hs} {nx last : Int} {p : Pe} (e : Hs.pers h nx last p = 0) : (0 ≤ p.sh ∧ p.sh ≤ 2) ∧ (0 ≤ p.ca ∧ p.ca ≤ 1) ∧ (0 ≤ p.st ∧ p.st ≤ 4) := by
  unfold Hs.pers Hs.persC at e
  split at e
  case isFalse => omega
  split at e
  case isTrue => omega
  split at e
  case isFalse q => exact absurd e q
  split at e
  case isFalse => omega
  case isTrue q =>
    unfold inP at q
    simp only [Bool.and_eq_true, inB_iff] at q
    exact ⟨q.1, q.2.1, q.2.2.1⟩
set_option maxRecDepth 20000 in
set_option maxHeartbeats 16000000 in
theorem implLedgerFault_any (h : Hs) (x : Lg) (a : Option Addr) (cap : Nat) (hl : x.ps.length ≤ 1048576) (w : World) (hP : PIn w w.heap.size a x.ps) :
    Calls Tryz.prog 40 #[.agg #[.int .i64 h.fl, .int .i64 h.gp, .int .i64 h.ln, .int .i64 h.rf, .int .i64 h.sp, .int .i64 h.pu, .int .i64 h.br, .int .i64 h.dr, .int .i64 h.lv, .int .i64 h.dO, .int .i64 h.ld, .int .i64 h.qu], .agg #[.int .i64 x.nx, .slice a x.ps.length cap]] w fun e w' => e = .returned (.int .i64 (Hs.led h x)) ∧ Below w.heap.size w w' := by
  unfold Hs.led
  have HP : Hid (PIn w w.heap.size a x.ps) := hP
  have F0 : Hid (HAt ((w.alloc (.cells #[.int .i64 h.fl, .int .i64 h.gp, .int .i64 h.ln, .int .i64 h.rf, .int .i64 h.sp, .int .i64 h.pu, .int .i64 h.br, .int .i64 h.dr, .int .i64 h.lv, .int .i64 h.dO, .int .i64 h.ld, .int .i64 h.qu] 32)).alloc (.cells #[.int .i64 x.nx, .slice a x.ps.length cap] 36)) w.heap.size h) := (HAt.new w h _).below ((Below.refl _ _).alloc (Nat.le_refl _) _) (by simp)
  have F1 : Hid (LAt ((w.alloc (.cells #[.int .i64 h.fl, .int .i64 h.gp, .int .i64 h.ln, .int .i64 h.rf, .int .i64 h.sp, .int .i64 h.pu, .int .i64 h.br, .int .i64 h.dr, .int .i64 h.lv, .int .i64 h.dO, .int .i64 h.ld, .int .i64 h.qu] 32)).alloc (.cells #[.int .i64 x.nx, .slice a x.ps.length cap] 36)) (w.heap.size + 1) x.nx a x.ps.length cap) := (LW.at_ _ x.nx (.slice a x.ps.length cap) _ _ (by simp)).lat
  have FB : Hid (Below w.heap.size w ((w.alloc (.cells #[.int .i64 h.fl, .int .i64 h.gp, .int .i64 h.ln, .int .i64 h.rf, .int .i64 h.sp, .int .i64 h.pu, .int .i64 h.br, .int .i64 h.dr, .int .i64 h.lv, .int .i64 h.dO, .int .i64 h.ld, .int .i64 h.qu] 32)).alloc (.cells #[.int .i64 x.nx, .slice a x.ps.length cap] 36))) := ((Below.refl _ _).alloc (Nat.le_refl _) _).alloc (by simp) _
  clear hP
  by_cases hf : h.fault = 0
  case neg =>
    rw [if_neg hf]
    have hn : (h.fault != 0) = true := by simpa using hf
    clear hf
    go_enter Tryz.func40, Tryz.ntmps40
    go_wp2_with (go_at_call 37; refine (implFault_any h _).mono ?_;  rintro e w1 ⟨rfl, hb⟩; have F0 : Hid (HAt w1 w.heap.size h) := F0.out.below hb F0.out.lt; have F1 : Hid (LAt w1 (w.heap.size + 1) x.nx a x.ps.length cap) := F1.out.below hb F1.out.lt; have FB : Hid (Below w.heap.size w w1) := FB.out.trans (hb.mono FB.out.size); clear hb; obtain ⟨x0_0, x0_1, x0_2, x0_3, x0_4, x0_5, x0_6, x0_7, x0_8, x0_9, x0_10, x0_11⟩ := F0.out; obtain ⟨g0, g1⟩ := F1.out)
    go_ret
    exact ⟨rfl, FB.out⟩
  rw [if_pos hf]
  have oo := Hs.ok_of (Hs.fault_zero hf).1
  have d1 := oo.ld1; have d2 := oo.ld2
  clear oo
  unfold Hs.ledC
  cases k1 : inB x.nx 1 1000000000000000
  · rw [if_neg (by simp)]
    go_enter Tryz.func40, Tryz.ntmps40
    go_wp2_with (first | (go_at_call 37; refine (implFault_any h _).mono ?_; rw [hf]; rintro e w1 ⟨rfl, hb⟩; have F0 : Hid (HAt w1 w.heap.size h) := F0.out.below hb F0.out.lt; have F1 : Hid (LAt w1 (w.heap.size + 1) x.nx a x.ps.length cap) := F1.out.below hb F1.out.lt; have FB : Hid (Below w.heap.size w w1) := FB.out.trans (hb.mono FB.out.size); clear hb; obtain ⟨x0_0, x0_1, x0_2, x0_3, x0_4, x0_5, x0_6, x0_7, x0_8, x0_9, x0_10, x0_11⟩ := F0.out; obtain ⟨g0, g1⟩ := F1.out) | (go_at_call 38; refine (isWithin_any _ _ _ _).mono ?_; rintro e w' ⟨rfl, hw⟩; obtain rfl := hw.symm; clear hw))
    go_ret
    exact ⟨rfl, FB.out⟩
  rw [if_pos rfl]
  have kk := inB_iff.1 k1
  by_cases k2 : 60 < x.ps.length
  · rw [if_pos k2]
    have b2 : decide ((60 : Int) < (x.ps.length : Int)) = true := decide_eq_true (by omega)
    go_enter Tryz.func40, Tryz.ntmps40
    go_wp2_with (first | (go_at_call 37; refine (implFault_any h _).mono ?_; rw [hf]; rintro e w1 ⟨rfl, hb⟩; have F0 : Hid (HAt w1 w.heap.size h) := F0.out.below hb F0.out.lt; have F1 : Hid (LAt w1 (w.heap.size + 1) x.nx a x.ps.length cap) := F1.out.below hb F1.out.lt; have FB : Hid (Below w.heap.size w w1) := FB.out.trans (hb.mono FB.out.size); clear hb; obtain ⟨x0_0, x0_1, x0_2, x0_3, x0_4, x0_5, x0_6, x0_7, x0_8, x0_9, x0_10, x0_11⟩ := F0.out; obtain ⟨g0, g1⟩ := F1.out) | (go_at_call 38; refine (isWithin_any _ _ _ _).mono ?_; rintro e w' ⟨rfl, hw⟩; obtain rfl := hw.symm; clear hw))
    go_ret
    exact ⟨rfl, FB.out⟩
  rw [if_neg k2]
  have b2 : decide ((60 : Int) < (x.ps.length : Int)) = false := decide_eq_false (by omega)
  obtain ⟨r, hr⟩ : ∃ r, (if Hs.first h x.nx 0 x.ps = 0 then (if h.qu < cnt 0 (-1) 0 x.ps then 2 else if Hs.over h x.ps = true then 2 else 0) else Hs.first h x.nx 0 x.ps) = r := ⟨_, rfl⟩
  rw [hr]
  have HR : Hid ((if Hs.first h x.nx 0 x.ps = 0 then (if h.qu < cnt 0 (-1) 0 x.ps then 2 else if Hs.over h x.ps = true then 2 else 0) else Hs.first h x.nx 0 x.ps) = r) := hr
  clear hr
  go_enter Tryz.func40, Tryz.ntmps40
  go_wp2_with (first | (go_at_call 37; refine (implFault_any h _).mono ?_; rw [hf]; rintro e w1 ⟨rfl, hb⟩; have F0 : Hid (HAt w1 w.heap.size h) := F0.out.below hb F0.out.lt; have F1 : Hid (LAt w1 (w.heap.size + 1) x.nx a x.ps.length cap) := F1.out.below hb F1.out.lt; have FB : Hid (Below w.heap.size w w1) := FB.out.trans (hb.mono FB.out.size); clear hb; obtain ⟨x0_0, x0_1, x0_2, x0_3, x0_4, x0_5, x0_6, x0_7, x0_8, x0_9, x0_10, x0_11⟩ := F0.out; obtain ⟨g0, g1⟩ := F1.out) | (go_at_call 38; refine (isWithin_any _ _ _ _).mono ?_; rintro e w' ⟨rfl, hw⟩; obtain rfl := hw.symm; clear hw))
  clear x0_0 x0_1 x0_2 x0_3 x0_4 x0_5 x0_6 x0_7 x0_8 x0_9 x0_10 x0_11 g0 g1
  go_loopw [6, 26] (fun aa ii wr => ∃ i : Nat, ii = .int .i64 i ∧ aa = .int .i64 (lastId x.ps i) ∧ i ≤ x.ps.length ∧ (∀ j q, j < i → x.ps[j]? = some q → Hs.pers h x.nx (if j = 0 then 0 else lastId x.ps j) q = 0) ∧ HAt wr w.heap.size h ∧ LAt wr (w.heap.size + 1) x.nx a x.ps.length cap ∧ Below w.heap.size w wr) (fun _ ii _ => x.ps.length - (intOf ii).toNat)
  case atStart => exact ⟨0, rfl, rfl, by omega, fun j q hj => absurd hj (by omega), F0.out, F1.out, FB.out⟩
  case round =>
    obtain ⟨i, rfl, rfl, hi, hok, h0, h1, h2⟩ := hrel
    have HOK : Hid (∀ j q, j < i → x.ps[j]? = some q → Hs.pers h x.nx (if j = 0 then 0 else lastId x.ps j) q = 0) := hok
    have G0 : Hid (HAt wr w.heap.size h) := h0
    have G1 : Hid (LAt wr (w.heap.size + 1) x.nx a x.ps.length cap) := h1
    have GB : Hid (Below w.heap.size w wr) := h2
    clear h0 h1 h2 hok
    obtain ⟨x0_0, x0_1, x0_2, x0_3, x0_4, x0_5, x0_6, x0_7, x0_8, x0_9, x0_10, x0_11⟩ := G0.out
    obtain ⟨g0, g1⟩ := G1.out
    by_cases hlt : i < x.ps.length
    · obtain ⟨p, hp⟩ : ∃ p, x.ps[i]? = some p := ⟨_, List.getElem?_eq_getElem hlt⟩
      have H0 : Hid (x.ps[i]? = some p) := hp
      have FS : Hid (Hs.first h x.nx 0 x.ps = if Hs.pers h x.nx (if i = 0 then 0 else lastId x.ps i) p = 0 then Hs.first h x.nx p.id (x.ps.drop (i + 1)) else Hs.pers h x.nx (if i = 0 then 0 else lastId x.ps i) p) := first_step hp HOK.out
      have el : (if i = 0 then 0 else lastId x.ps i) = lastId x.ps i := by
        cases i with
        | zero => rfl
        | succ i => rw [if_neg (by omega)]
      rw [el] at FS
      rcases HP.out with hz | ⟨b, o, ha, hbl, h7⟩
      · rw [hz] at hlt; simp at hlt
      subst ha
      obtain ⟨c0, c1, c2, c3, c4, c5, c6⟩ := (h7 i p hp).below GB.out hbl
      obtain ⟨c, hc⟩ : ∃ c, Hs.pers h x.nx (lastId x.ps i) p = c := ⟨_, rfl⟩
      rw [hc] at FS
      have HC : Hid (Hs.pers h x.nx (lastId x.ps i) p = c) := hc
      have HLn : Hid (lastId x.ps (i + 1) = p.id) := lastId_next hp
      obtain ⟨la, hla⟩ : ∃ la, lastId x.ps i = la := ⟨_, rfl⟩
      rw [hla] at HC
      rw [hla]
      have HLA : Hid (lastId x.ps i = la) := hla
      clear hc h7 hp hla
      by_cases cz : c = 0
      · subst cz
        have HOK' : Hid (∀ j q, j < i + 1 → x.ps[j]? = some q → Hs.pers h x.nx (if j = 0 then 0 else lastId x.ps j) q = 0) := by
          intro j q hj hq
          by_cases ej : j = i
          · subst ej
            rw [H0.out] at hq
            cases hq
            rw [el, HLA.out]
            exact HC.out
          · exact HOK.out j q (by omega) hq
        clear el
        go_upto_region 12 with fail
        obtain ⟨pb, hpb⟩ : ∃ pb, pb = wr.heap.size := ⟨_, rfl⟩
        obtain ⟨W1, hW1⟩ : ∃ W1, W1 = wr.alloc (.cells #[.int .i64 p.id, .int .i64 p.fr, .int .i64 p.tw, .int .i64 p.sh, .int .i64 p.ca, .int .i64 p.st, .int .i64 p.pl] 58) := ⟨_, rfl⟩
        have G0 : Hid (HAt W1 w.heap.size h) := by rw [hW1]; exact G0.out.alloc _
        have G1 : Hid (LAt W1 (w.heap.size + 1) x.nx (some ⟨b, o, none⟩) x.ps.length cap) := by rw [hW1]; exact G1.out.below ((Below.refl _ _).alloc (Nat.le_refl _) _) G1.out.lt
        have G3 : Hid (P7 W1 pb 0 p) := by rw [hW1]; exact P7.at_ wr p _ _ hpb
        have GB : Hid (Below w.heap.size w W1) := by rw [hW1]; exact GB.out.alloc GB.out.size _
        rw [← hW1, ← hpb]
        clear hW1 hpb c0 c1 c2 c3 c4 c5 c6
        obtain ⟨x0_0, x0_1, x0_2, x0_3, x0_4, x0_5, x0_6, x0_7, x0_8, x0_9, x0_10, x0_11⟩ := G0.out
        obtain ⟨g0, g1⟩ := G1.out
        obtain ⟨z0, z1, z2, z3, z4, z5, z6⟩ := G3.out
        go_wp2_with (go_at_call 65; refine (personFault_any h hf p la x.nx kk.1 kk.2 _).mono ?_; rw [HC.out]; rintro e w2 ⟨rfl, hb⟩; have G0 : Hid (HAt w2 w.heap.size h) := G0.out.below hb G0.out.lt; have G1 : Hid (LAt w2 (w.heap.size + 1) x.nx (some ⟨b, o, none⟩) x.ps.length cap) := G1.out.below hb G1.out.lt; have G3 : Hid (P7 w2 pb 0 p) := G3.out.below hb G3.out.lt; have GB : Hid (Below w.heap.size w w2) := GB.out.trans (hb.mono GB.out.size); clear hb; obtain ⟨z0, z1, z2, z3, z4, z5, z6⟩ := G3.out)
        go_roundw
        case rel => exact ⟨i + 1, by simp, by rw [HLn.out], by omega, HOK'.out, G0.out, G1.out, GB.out⟩
        case measure => simp [intOf]; omega
      · have hn : (c != 0) = true := by simpa using cz
        have HR : Hid (c = r) := by
          have q := FS.out
          rw [if_neg cz] at q
          have z := HR.out
          rw [q, if_neg cz] at z
          exact z
        clear el cz FS
        go_upto_region 12 with fail
        obtain ⟨pb, hpb⟩ : ∃ pb, pb = wr.heap.size := ⟨_, rfl⟩
        obtain ⟨W1, hW1⟩ : ∃ W1, W1 = wr.alloc (.cells #[.int .i64 p.id, .int .i64 p.fr, .int .i64 p.tw, .int .i64 p.sh, .int .i64 p.ca, .int .i64 p.st, .int .i64 p.pl] 58) := ⟨_, rfl⟩
        have G0 : Hid (HAt W1 w.heap.size h) := by rw [hW1]; exact G0.out.alloc _
        have G1 : Hid (LAt W1 (w.heap.size + 1) x.nx (some ⟨b, o, none⟩) x.ps.length cap) := by rw [hW1]; exact G1.out.below ((Below.refl _ _).alloc (Nat.le_refl _) _) G1.out.lt
        have G3 : Hid (P7 W1 pb 0 p) := by rw [hW1]; exact P7.at_ wr p _ _ hpb
        have GB : Hid (Below w.heap.size w W1) := by rw [hW1]; exact GB.out.alloc GB.out.size _
        rw [← hW1, ← hpb]
        clear hW1 hpb c0 c1 c2 c3 c4 c5 c6
        obtain ⟨x0_0, x0_1, x0_2, x0_3, x0_4, x0_5, x0_6, x0_7, x0_8, x0_9, x0_10, x0_11⟩ := G0.out
        obtain ⟨g0, g1⟩ := G1.out
        obtain ⟨z0, z1, z2, z3, z4, z5, z6⟩ := G3.out
        go_wp2_with (go_at_call 65; refine (personFault_any h hf p la x.nx kk.1 kk.2 _).mono ?_; rw [HC.out]; rintro e w2 ⟨rfl, hb⟩; have G0 : Hid (HAt w2 w.heap.size h) := G0.out.below hb G0.out.lt; have G1 : Hid (LAt w2 (w.heap.size + 1) x.nx (some ⟨b, o, none⟩) x.ps.length cap) := G1.out.below hb G1.out.lt; have G3 : Hid (P7 w2 pb 0 p) := G3.out.below hb G3.out.lt; have GB : Hid (Below w.heap.size w w2) := GB.out.trans (hb.mono GB.out.size); clear hb; obtain ⟨z0, z1, z2, z3, z4, z5, z6⟩ := G3.out)
        go_ret
        exact ⟨ret_int HR.out, GB.out⟩
    · have ei : i = x.ps.length := by omega
      subst ei
      have ef : Hs.first h x.nx 0 x.ps = 0 := first_all HOK.out
      have HS : Hid (∀ (i : Nat) (p : Pe), x.ps[i]? = some p → (0 ≤ p.sh ∧ p.sh ≤ 2) ∧ (0 ≤ p.ca ∧ p.ca ≤ 1) ∧ (0 ≤ p.st ∧ p.st ≤ 4)) := fun i p hp => pers_parts (HOK.out i p (List.getElem?_eq_some_iff.1 hp).1 hp)
      have HR : Hid ((if Hs.crowd h x.ps = true then 2 else 0) = r) := by
        have q := HR.out
        rw [if_pos ef] at q
        rw [← q]
        unfold Hs.crowd
        by_cases c1 : h.qu < cnt 0 (-1) 0 x.ps
        · rw [if_pos c1, if_pos (by simp [c1])]
          exact rfl
        · rw [if_neg c1]
          simp [c1]
          exact trivial
      clear ef HOK hlt hi
      have CR := fun W hW => isCrowded_any h (by omega) d2 x.ps a cap hl HS.out W hW
      cases kc : Hs.crowd h x.ps
      · have HR : Hid ((0 : Int) = r) := by
          have q := HR.out
          rw [kc] at q
          exact q
        go_wp2_with (go_at_call 66; refine (CR _ ((HP.out.below GB.out (Nat.le_refl _)).mono GB.out.size)).mono ?_; rw [kc]; rintro e w3 ⟨rfl, hb⟩; have GB : Hid (Below w.heap.size w w3) := GB.out.trans (hb.mono GB.out.size); clear hb)
        go_ret
        exact ⟨ret_int HR.out, GB.out⟩
      · have HR : Hid ((2 : Int) = r) := by
          have q := HR.out
          rw [kc] at q
          exact q
        go_wp2_with (go_at_call 66; refine (CR _ ((HP.out.below GB.out (Nat.le_refl _)).mono GB.out.size)).mono ?_; rw [kc]; rintro e w3 ⟨rfl, hb⟩; have GB : Hid (Below w.heap.size w w3) := GB.out.trans (hb.mono GB.out.size); clear hb)
        go_ret
        exact ⟨ret_int HR.out, GB.out⟩
theorem led_fl {h : Hs} {x : Lg} (hk : Hs.led h x = 0) : h.Ok := by
  have hf : h.fault = 0 := by
    unfold Hs.led at hk
    by_cases q : h.fault = 0
    · exact q
    · rw [if_neg q] at hk; exact hk
  exact Hs.ok_of (Hs.fault_zero hf).1
theorem askd_zero {h : Hs} {x : Lg} {sh ca : Int} : Hs.askd h x sh ca 0 = if Hs.led h x = 0 then (if carB sh ca = true then 0 else 3) else Hs.led h x := by
  unfold Hs.askd
  by_cases hk : Hs.led h x = 0
  · rw [if_pos hk, if_pos hk]
    have o := (led_fl hk).fl1
    have i : inB 0 0 (h.fl - 1) = true := inB_iff.2 ⟨by omega, by omega⟩
    by_cases c : carB sh ca = true
    · rw [if_pos ⟨c, i⟩, if_pos c]
    · rw [if_neg (fun q => c q.1), if_neg c]
  · rw [if_neg hk, if_neg hk]
end Go.Proofs.YtnfdplfifpmhoaaGreatDoor

namespace Go.Proofs.YtnfdplfifpmhoaaGreatDoor
open Go.RowKit Pl
set_option linter.unusedSimpArgs false
set_option linter.unusedVariables false

theorem isPhase_any (p : Int) (w : World) :
    Calls Tryz.prog 64 #[.int .i64 p] w fun e w' => e = .returned (.bool (inB p 0 2)) ∧ w' = w := by
  go_enter Tryz.func64, Tryz.ntmps64
  go_wp2_with (go_at_call 38; refine (isWithin_any _ _ _ _).mono ?_; rintro e w' ⟨rfl, hw⟩; obtain rfl := hw.symm; clear hw)
  go_ret
  exact ⟨rfl, rfl⟩
set_option maxRecDepth 20000 in
set_option maxHeartbeats 8000000 in
theorem isDeck_any (h : Hs) (da : Option Addr) (dn dc : Nat) (nx : Int) (pa : Option Addr) (pn pc : Nat) (tk : Int) (rc : Bool) (sh : Int) (hd : dn ≤ 1048576) (w : World) :
    Calls Tryz.prog 41 #[.agg #[.int .i64 h.fl, .int .i64 h.gp, .int .i64 h.ln, .int .i64 h.rf, .int .i64 h.sp, .int .i64 h.pu, .int .i64 h.br, .int .i64 h.dr, .int .i64 h.lv, .int .i64 h.dO, .int .i64 h.ld, .int .i64 h.qu, .slice da dn dc, .int .i64 nx, .slice pa pn pc, .int .i64 tk, .bool rc], .int .i64 sh] w fun e w' => e = .returned (.bool (inB sh 0 ((dn : Int) - 1))) ∧ Below w.heap.size w w' := by
  have FB : Hid (Below w.heap.size w (w.alloc (.cells #[.int .i64 h.fl, .int .i64 h.gp, .int .i64 h.ln, .int .i64 h.rf, .int .i64 h.sp, .int .i64 h.pu, .int .i64 h.br, .int .i64 h.dr, .int .i64 h.lv, .int .i64 h.dO, .int .i64 h.ld, .int .i64 h.qu, .slice da dn dc, .int .i64 nx, .slice pa pn pc, .int .i64 tk, .bool rc] 38))) := (Below.refl _ _).alloc (Nat.le_refl _) _
  have ew : IntKind.i64.wrap ((dn : Int) - 1) = (dn : Int) - 1 := IntWalk.i64_in _ (by omega)
  go_enter Tryz.func41, Tryz.ntmps41
  go_wp2_with (go_at_call 38; refine (isWithin_any _ _ _ _).mono ?_; rintro e w' ⟨rfl, hw⟩; obtain rfl := hw.symm; clear hw)
  go_ret
  exact ⟨rfl, FB.out⟩
set_option maxRecDepth 20000 in
set_option maxHeartbeats 32000000 in
theorem deckFault_any (h : Hs) (d : Dk) (w : World) :
    Calls Tryz.prog 39 #[.agg #[.int .i64 h.fl, .int .i64 h.gp, .int .i64 h.ln, .int .i64 h.rf, .int .i64 h.sp, .int .i64 h.pu, .int .i64 h.br, .int .i64 h.dr, .int .i64 h.lv, .int .i64 h.dO, .int .i64 h.ld, .int .i64 h.qu], .agg #[.int .i64 d.sh.lo.pos, .int .i64 d.sh.lo.vel, .int .i64 d.sh.lo.door, .int .i64 d.sh.up.pos, .int .i64 d.sh.up.vel, .int .i64 d.sh.up.door, .int .i64 d.sp.l.lo, .int .i64 d.sp.l.hi, .int .i64 d.sp.u.lo, .int .i64 d.sp.u.hi, .int .i64 d.pl, .int .i64 d.pu, .bool d.hd]] w fun e w' => e = .returned (.int .i64 (Hs.deck h d)) ∧ Below w.heap.size w w' := by
  have F0 : Hid (HAt ((w.alloc (.cells #[.int .i64 h.fl, .int .i64 h.gp, .int .i64 h.ln, .int .i64 h.rf, .int .i64 h.sp, .int .i64 h.pu, .int .i64 h.br, .int .i64 h.dr, .int .i64 h.lv, .int .i64 h.dO, .int .i64 h.ld, .int .i64 h.qu] 32)).alloc (.cells #[.int .i64 d.sh.lo.pos, .int .i64 d.sh.lo.vel, .int .i64 d.sh.lo.door, .int .i64 d.sh.up.pos, .int .i64 d.sh.up.vel, .int .i64 d.sh.up.door, .int .i64 d.sp.l.lo, .int .i64 d.sp.l.hi, .int .i64 d.sp.u.lo, .int .i64 d.sp.u.hi, .int .i64 d.pl, .int .i64 d.pu, .bool d.hd] 55)) w.heap.size h) := (HAt.new w h _).below ((Below.refl _ _).alloc (Nat.le_refl _) _) (by simp)
  have F1 : Hid (Blk ((w.alloc (.cells #[.int .i64 h.fl, .int .i64 h.gp, .int .i64 h.ln, .int .i64 h.rf, .int .i64 h.sp, .int .i64 h.pu, .int .i64 h.br, .int .i64 h.dr, .int .i64 h.lv, .int .i64 h.dO, .int .i64 h.ld, .int .i64 h.qu] 32)).alloc (.cells #[.int .i64 d.sh.lo.pos, .int .i64 d.sh.lo.vel, .int .i64 d.sh.lo.door, .int .i64 d.sh.up.pos, .int .i64 d.sh.up.vel, .int .i64 d.sh.up.door, .int .i64 d.sp.l.lo, .int .i64 d.sp.l.hi, .int .i64 d.sp.u.lo, .int .i64 d.sp.u.hi, .int .i64 d.pl, .int .i64 d.pu, .bool d.hd] 55)) (w.heap.size + 1) (cellsD d)) := Blk.at_ _ #[.int .i64 d.sh.lo.pos, .int .i64 d.sh.lo.vel, .int .i64 d.sh.lo.door, .int .i64 d.sh.up.pos, .int .i64 d.sh.up.vel, .int .i64 d.sh.up.door, .int .i64 d.sp.l.lo, .int .i64 d.sp.l.hi, .int .i64 d.sp.u.lo, .int .i64 d.sp.u.hi, .int .i64 d.pl, .int .i64 d.pu, .bool d.hd] _ _ (by simp)
  have FB : Hid (Below w.heap.size w ((w.alloc (.cells #[.int .i64 h.fl, .int .i64 h.gp, .int .i64 h.ln, .int .i64 h.rf, .int .i64 h.sp, .int .i64 h.pu, .int .i64 h.br, .int .i64 h.dr, .int .i64 h.lv, .int .i64 h.dO, .int .i64 h.ld, .int .i64 h.qu] 32)).alloc (.cells #[.int .i64 d.sh.lo.pos, .int .i64 d.sh.lo.vel, .int .i64 d.sh.lo.door, .int .i64 d.sh.up.pos, .int .i64 d.sh.up.vel, .int .i64 d.sh.up.door, .int .i64 d.sp.l.lo, .int .i64 d.sp.l.hi, .int .i64 d.sp.u.lo, .int .i64 d.sp.u.hi, .int .i64 d.pl, .int .i64 d.pu, .bool d.hd] 55))) := ((Below.refl _ _).alloc (Nat.le_refl _) _).alloc (by simp) _
  obtain ⟨W0, hW0⟩ : ∃ W0, W0 = ((w.alloc (.cells #[.int .i64 h.fl, .int .i64 h.gp, .int .i64 h.ln, .int .i64 h.rf, .int .i64 h.sp, .int .i64 h.pu, .int .i64 h.br, .int .i64 h.dr, .int .i64 h.lv, .int .i64 h.dO, .int .i64 h.ld, .int .i64 h.qu] 32)).alloc (.cells #[.int .i64 d.sh.lo.pos, .int .i64 d.sh.lo.vel, .int .i64 d.sh.lo.door, .int .i64 d.sh.up.pos, .int .i64 d.sh.up.vel, .int .i64 d.sh.up.door, .int .i64 d.sp.l.lo, .int .i64 d.sp.l.hi, .int .i64 d.sp.u.lo, .int .i64 d.sp.u.hi, .int .i64 d.pl, .int .i64 d.pu, .bool d.hd] 55)) := ⟨_, rfl⟩
  rw [← hW0] at F0 F1 FB
  have HW0 : Hid (W0 = ((w.alloc (.cells #[.int .i64 h.fl, .int .i64 h.gp, .int .i64 h.ln, .int .i64 h.rf, .int .i64 h.sp, .int .i64 h.pu, .int .i64 h.br, .int .i64 h.dr, .int .i64 h.lv, .int .i64 h.dO, .int .i64 h.ld, .int .i64 h.qu] 32)).alloc (.cells #[.int .i64 d.sh.lo.pos, .int .i64 d.sh.lo.vel, .int .i64 d.sh.lo.door, .int .i64 d.sh.up.pos, .int .i64 d.sh.up.vel, .int .i64 d.sh.up.door, .int .i64 d.sp.l.lo, .int .i64 d.sp.l.hi, .int .i64 d.sp.u.lo, .int .i64 d.sp.u.hi, .int .i64 d.pl, .int .i64 d.pu, .bool d.hd] 55))) := hW0
  clear hW0
  go_enter Tryz.func39, Tryz.ntmps39
  go_upto_region 1 with fail
  rw [← HW0.out]
  clear HW0
  go_cut [5] (fun c wx => c = .int .i64 (orI (h.shaft d.sh) (Hs.spans h d.sp)) ∧ HAt wx w.heap.size h ∧ Blk wx (w.heap.size + 1) (cellsD d) ∧ Below w.heap.size w wx)
  case first =>
    have F0 : Hid (HAt W0.drew w.heap.size h) := F0.out.below (Below.refl _ _).drew F0.out.lt
    have F1 : Hid (Blk W0.drew (w.heap.size + 1) (cellsD d)) := F1.out.below (Below.refl _ _).drew F1.out.lt
    have FB : Hid (Below w.heap.size w W0.drew) := FB.out.drew
    obtain ⟨x0_0, x0_1, x0_2, x0_3, x0_4, x0_5, x0_6, x0_7, x0_8, x0_9, x0_10, x0_11⟩ := F0.out
    have y0 := F1.out.c 0 _ rfl
    have y1 := F1.out.c 1 _ rfl
    have y2 := F1.out.c 2 _ rfl
    have y3 := F1.out.c 3 _ rfl
    have y4 := F1.out.c 4 _ rfl
    have y5 := F1.out.c 5 _ rfl
    have y6 := F1.out.c 6 _ rfl
    have y7 := F1.out.c 7 _ rfl
    have y8 := F1.out.c 8 _ rfl
    have y9 := F1.out.c 9 _ rfl
    have y10 := F1.out.c 10 _ rfl
    have y11 := F1.out.c 11 _ rfl
    have y12 := F1.out.c 12 _ rfl
    refine wp_region_held_drew (S := (fun w'' => w''.cell? ⟨w.heap.size, 0, none⟩ = some (.int .i64 h.fl) ∧ w''.cell? ⟨w.heap.size, 1, none⟩ = some (.int .i64 h.gp) ∧ w''.cell? ⟨w.heap.size, 2, none⟩ = some (.int .i64 h.ln) ∧ w''.cell? ⟨w.heap.size, 3, none⟩ = some (.int .i64 h.rf) ∧ w''.cell? ⟨w.heap.size, 4, none⟩ = some (.int .i64 h.sp) ∧ w''.cell? ⟨w.heap.size, 5, none⟩ = some (.int .i64 h.pu) ∧ w''.cell? ⟨w.heap.size, 6, none⟩ = some (.int .i64 h.br) ∧ w''.cell? ⟨w.heap.size, 7, none⟩ = some (.int .i64 h.dr) ∧ w''.cell? ⟨w.heap.size, 8, none⟩ = some (.int .i64 h.lv) ∧ w''.cell? ⟨w.heap.size, 9, none⟩ = some (.int .i64 h.dO) ∧ w''.cell? ⟨w.heap.size, 10, none⟩ = some (.int .i64 h.ld) ∧ w''.cell? ⟨w.heap.size, 11, none⟩ = some (.int .i64 h.qu) ∧ w''.cell? ⟨w.heap.size + 1, 0, none⟩ = some (.int .i64 d.sh.lo.pos) ∧ w''.cell? ⟨w.heap.size + 1, 1, none⟩ = some (.int .i64 d.sh.lo.vel) ∧ w''.cell? ⟨w.heap.size + 1, 2, none⟩ = some (.int .i64 d.sh.lo.door) ∧ w''.cell? ⟨w.heap.size + 1, 3, none⟩ = some (.int .i64 d.sh.up.pos) ∧ w''.cell? ⟨w.heap.size + 1, 4, none⟩ = some (.int .i64 d.sh.up.vel) ∧ w''.cell? ⟨w.heap.size + 1, 5, none⟩ = some (.int .i64 d.sh.up.door) ∧ w''.cell? ⟨w.heap.size + 1, 6, none⟩ = some (.int .i64 d.sp.l.lo) ∧ w''.cell? ⟨w.heap.size + 1, 7, none⟩ = some (.int .i64 d.sp.l.hi) ∧ w''.cell? ⟨w.heap.size + 1, 8, none⟩ = some (.int .i64 d.sp.u.lo) ∧ w''.cell? ⟨w.heap.size + 1, 9, none⟩ = some (.int .i64 d.sp.u.hi) ∧ w''.cell? ⟨w.heap.size + 1, 10, none⟩ = some (.int .i64 d.pl) ∧ w''.cell? ⟨w.heap.size + 1, 11, none⟩ = some (.int .i64 d.pu) ∧ w''.cell? ⟨w.heap.size + 1, 12, none⟩ = some (.bool d.hd))) (by kernel_rfl) (by (try dsimp only); first | exact ⟨x0_0, x0_1, x0_2, x0_3, x0_4, x0_5, x0_6, x0_7, x0_8, x0_9, x0_10, x0_11, y0, y1, y2, y3, y4, y5, y6, y7, y8, y9, y10, y11, y12⟩ | go_keep) (fun hHeld => ?_)
    obtain ⟨v_1, hw1⟩ : ∃ v_1, v_1 = W0.drew := ⟨_, rfl⟩
    have F0 : Hid (HAt v_1 w.heap.size h) := by rw [hw1]; exact F0.out
    have F1 : Hid (Blk v_1 (w.heap.size + 1) (cellsD d)) := by rw [hw1]; exact F1.out
    have FB : Hid (Below w.heap.size w v_1) := by rw [hw1]; exact FB.out
    rw [← hw1] at hHeld ⊢
    clear hw1
    obtain ⟨x0_0, x0_1, x0_2, x0_3, x0_4, x0_5, x0_6, x0_7, x0_8, x0_9, x0_10, x0_11⟩ := F0.out
    have y0 := F1.out.c 0 _ rfl
    have y1 := F1.out.c 1 _ rfl
    have y2 := F1.out.c 2 _ rfl
    have y3 := F1.out.c 3 _ rfl
    have y4 := F1.out.c 4 _ rfl
    have y5 := F1.out.c 5 _ rfl
    have y6 := F1.out.c 6 _ rfl
    have y7 := F1.out.c 7 _ rfl
    have y8 := F1.out.c 8 _ rfl
    have y9 := F1.out.c 9 _ rfl
    have y10 := F1.out.c 10 _ rfl
    have y11 := F1.out.c 11 _ rfl
    have y12 := F1.out.c 12 _ rfl
    refine tkz 0 rfl ?_
    refine tkz 1 rfl ?_
    refine tkz 2 rfl ?_
    refine tkz 4 rfl ?_
    refine tkz 5 rfl ?_
    refine tkz 6 rfl ?_
    refine wpAnyH_ready (rs := [3]) (by kernel_rfl) (by simp) ?_
    refine (AllReadyH.cons rfl (fun K hK => ?_) AllReadyH.nil)
    go_simp
    refine (implShaftFault_any h d.sh _).mono ?_
    rintro e v_2 ⟨rfl, hb⟩
    have F0 : Hid (HAt v_2 w.heap.size h) := F0.out.below hb F0.out.lt
    have F1 : Hid (Blk v_2 (w.heap.size + 1) (cellsD d)) := F1.out.below hb F1.out.lt
    have FB : Hid (Below w.heap.size w v_2) := FB.out.trans (hb.mono FB.out.size)
    clear hb
    obtain ⟨x0_0, x0_1, x0_2, x0_3, x0_4, x0_5, x0_6, x0_7, x0_8, x0_9, x0_10, x0_11⟩ := F0.out
    have y0 := F1.out.c 0 _ rfl
    have y1 := F1.out.c 1 _ rfl
    have y2 := F1.out.c 2 _ rfl
    have y3 := F1.out.c 3 _ rfl
    have y4 := F1.out.c 4 _ rfl
    have y5 := F1.out.c 5 _ rfl
    have y6 := F1.out.c 6 _ rfl
    have y7 := F1.out.c 7 _ rfl
    have y8 := F1.out.c 8 _ rfl
    have y9 := F1.out.c 9 _ rfl
    have y10 := F1.out.c 10 _ rfl
    have y11 := F1.out.c 11 _ rfl
    have y12 := F1.out.c 12 _ rfl
    try dsimp only
    refine hK.out _ _ (by (try dsimp only); first | exact ⟨x0_0, x0_1, x0_2, x0_3, x0_4, x0_5, x0_6, x0_7, x0_8, x0_9, x0_10, x0_11, y0, y1, y2, y3, y4, y5, y6, y7, y8, y9, y10, y11, y12⟩ | go_keep) (fun hHeld => ?_)
    clear hK K
    try simp only [Act.put, List.getElem_toArray, List.getElem_cons_succ, List.getElem_cons_zero, List.setIfInBounds_toArray, List.set_cons_zero, List.set_cons_succ]
    refine wpAnyH_ready (rs := [7]) (by kernel_rfl) (by simp) ?_
    refine (AllReadyH.cons rfl (fun K hK => ?_) AllReadyH.nil)
    go_simp
    refine (implSpansFault_any h d.sp _).mono ?_
    rintro e v_3 ⟨rfl, hb⟩
    have F0 : Hid (HAt v_3 w.heap.size h) := F0.out.below hb F0.out.lt
    have F1 : Hid (Blk v_3 (w.heap.size + 1) (cellsD d)) := F1.out.below hb F1.out.lt
    have FB : Hid (Below w.heap.size w v_3) := FB.out.trans (hb.mono FB.out.size)
    clear hb
    obtain ⟨x0_0, x0_1, x0_2, x0_3, x0_4, x0_5, x0_6, x0_7, x0_8, x0_9, x0_10, x0_11⟩ := F0.out
    have y0 := F1.out.c 0 _ rfl
    have y1 := F1.out.c 1 _ rfl
    have y2 := F1.out.c 2 _ rfl
    have y3 := F1.out.c 3 _ rfl
    have y4 := F1.out.c 4 _ rfl
    have y5 := F1.out.c 5 _ rfl
    have y6 := F1.out.c 6 _ rfl
    have y7 := F1.out.c 7 _ rfl
    have y8 := F1.out.c 8 _ rfl
    have y9 := F1.out.c 9 _ rfl
    have y10 := F1.out.c 10 _ rfl
    have y11 := F1.out.c 11 _ rfl
    have y12 := F1.out.c 12 _ rfl
    try dsimp only
    refine hK.out _ _ (by (try dsimp only); first | exact ⟨x0_0, x0_1, x0_2, x0_3, x0_4, x0_5, x0_6, x0_7, x0_8, x0_9, x0_10, x0_11, y0, y1, y2, y3, y4, y5, y6, y7, y8, y9, y10, y11, y12⟩ | go_keep) (fun hHeld => ?_)
    clear hK K
    try simp only [Act.put, List.getElem_toArray, List.getElem_cons_succ, List.getElem_cons_zero, List.setIfInBounds_toArray, List.set_cons_zero, List.set_cons_succ]
    refine wpAnyH_ready (rs := [8]) (by kernel_rfl) (by simp) ?_
    refine (AllReadyH.cons rfl (fun K hK => ?_) AllReadyH.nil)
    go_simp
    obtain ⟨lb0, hbb⟩ : ∃ lb0, lb0 = v_3.heap.size := ⟨_, rfl⟩
    obtain ⟨v_4, hw2⟩ : ∃ v_4, v_4 = v_3.alloc (.cells #[.int .i64 (h.shaft d.sh), .int .i64 (Hs.spans h d.sp)] 2) := ⟨_, rfl⟩
    have nlb0_0 := F0.out.lt
    rw [← hbb] at nlb0_0
    have nlb0_1 := F1.out.lt
    rw [← hbb] at nlb0_1
    have FL0 : Hid (Pr2 v_4 lb0 (h.shaft d.sh) (Hs.spans h d.sp)) := by rw [hw2]; exact Pr2.at_ v_3 _ _ _ lb0 hbb
    have F0 : Hid (HAt v_4 w.heap.size h) := by rw [hw2]; exact F0.out.alloc _
    have F1 : Hid (Blk v_4 (w.heap.size + 1) (cellsD d)) := by rw [hw2]; exact F1.out.alloc _
    have FB : Hid (Below w.heap.size w v_4) := by rw [hw2]; exact FB.out.alloc FB.out.size _
    rw [← hw2, ← hbb]
    clear hbb hw2
    obtain ⟨x0_0, x0_1, x0_2, x0_3, x0_4, x0_5, x0_6, x0_7, x0_8, x0_9, x0_10, x0_11⟩ := F0.out
    have y0 := F1.out.c 0 _ rfl
    have y1 := F1.out.c 1 _ rfl
    have y2 := F1.out.c 2 _ rfl
    have y3 := F1.out.c 3 _ rfl
    have y4 := F1.out.c 4 _ rfl
    have y5 := F1.out.c 5 _ rfl
    have y6 := F1.out.c 6 _ rfl
    have y7 := F1.out.c 7 _ rfl
    have y8 := F1.out.c 8 _ rfl
    have y9 := F1.out.c 9 _ rfl
    have y10 := F1.out.c 10 _ rfl
    have y11 := F1.out.c 11 _ rfl
    have y12 := F1.out.c 12 _ rfl
    refine hK.out _ _ (by (try dsimp only); first | exact ⟨x0_0, x0_1, x0_2, x0_3, x0_4, x0_5, x0_6, x0_7, x0_8, x0_9, x0_10, x0_11, y0, y1, y2, y3, y4, y5, y6, y7, y8, y9, y10, y11, y12⟩ | go_keep) (fun hHeld => ?_)
    clear hK K
    try simp only [Act.put, List.getElem_toArray, List.getElem_cons_succ, List.getElem_cons_zero, List.setIfInBounds_toArray, List.set_cons_zero, List.set_cons_succ]
    refine wpAnyH_ready (rs := [9]) (by kernel_rfl) (by simp) ?_
    refine (AllReadyH.cons rfl (fun K hK => ?_) AllReadyH.nil)
    go_simp
    refine (or_any (h.shaft d.sh) (Hs.spans h d.sp) _ _ FL0.out.c0 FL0.out.c1).mono ?_
    rintro e w_ ⟨rfl, hw⟩
    obtain rfl := hw.symm
    clear hw
    try dsimp only
    refine hK.out _ _ (by (try dsimp only); first | exact ⟨x0_0, x0_1, x0_2, x0_3, x0_4, x0_5, x0_6, x0_7, x0_8, x0_9, x0_10, x0_11, y0, y1, y2, y3, y4, y5, y6, y7, y8, y9, y10, y11, y12⟩ | go_keep) (fun hHeld => ?_)
    clear hK K
    try simp only [Act.put, List.getElem_toArray, List.getElem_cons_succ, List.getElem_cons_zero, List.setIfInBounds_toArray, List.set_cons_zero, List.set_cons_succ]
    refine tkz 10 rfl ?_
    refine wpAnyH_done (by kernel_rfl) ?_ _
    go_wp2_with fail
    go_meet
    case rel => exact ⟨rfl, F0.out, F1.out, FB.out⟩
  case rest =>
    obtain ⟨rfl, h0, h1, h2⟩ := hcut
    have F1 : Hid (Blk wc (w.heap.size + 1) (cellsD d)) := h1
    have FB : Hid (Below w.heap.size w wc) := h2
    clear h0 h1 h2
    have y0 := F1.out.c 0 _ rfl
    have y1 := F1.out.c 1 _ rfl
    have y2 := F1.out.c 2 _ rfl
    have y3 := F1.out.c 3 _ rfl
    have y4 := F1.out.c 4 _ rfl
    have y5 := F1.out.c 5 _ rfl
    have y6 := F1.out.c 6 _ rfl
    have y7 := F1.out.c 7 _ rfl
    have y8 := F1.out.c 8 _ rfl
    have y9 := F1.out.c 9 _ rfl
    have y10 := F1.out.c 10 _ rfl
    have y11 := F1.out.c 11 _ rfl
    have y12 := F1.out.c 12 _ rfl
    by_cases k1 : h.shaft d.sh = 0
    case neg =>
      have e1 : orI (h.shaft d.sh) (Hs.spans h d.sp) = h.shaft d.sh := by unfold orI; rw [if_neg k1]
      have hn : (h.shaft d.sh != 0) = true := by simpa using k1
      have z : Hs.deck h d = h.shaft d.sh := by unfold Hs.deck; rw [if_neg k1]
      rw [e1]
      have HZ : Hid (h.shaft d.sh = Hs.deck h d) := z.symm
      clear k1 z e1
      go_wp2_with fail
      go_ret
      exact ⟨ret_int HZ.out, FB.out⟩
    by_cases k2 : Hs.spans h d.sp = 0
    case neg =>
      have e1 : orI (h.shaft d.sh) (Hs.spans h d.sp) = Hs.spans h d.sp := by unfold orI; rw [if_pos k1]
      have hn : (Hs.spans h d.sp != 0) = true := by simpa using k2
      have z : Hs.deck h d = Hs.spans h d.sp := by unfold Hs.deck; rw [if_pos k1, if_neg k2]
      rw [e1]
      have HZ : Hid (Hs.spans h d.sp = Hs.deck h d) := z.symm
      clear k1 k2 z e1
      go_wp2_with fail
      go_ret
      exact ⟨ret_int HZ.out, FB.out⟩
    have e1 : orI (h.shaft d.sh) (Hs.spans h d.sp) = 0 := by unfold orI; rw [if_pos k1]; exact k2
    have KD : Hid (Hs.deck h d = (if inB d.pl 0 2 = true ∧ inB d.pu 0 2 = true then (if phB d = true then 1 else 0) else 3)) := by unfold Hs.deck; rw [if_pos k1, if_pos k2]; exact rfl
    rw [e1]
    clear k1 k2 e1
    go_upto_region 4 with fail
    cases p1 : inB d.pl 0 2
    · have HZ : Hid ((3 : Int) = Hs.deck h d) := by
        have q := KD.out
        rw [if_neg (by rw [p1]; simp)] at q
        exact q.symm
      go_wp2_with (go_at_call 64; refine (isPhase_any _ _).mono ?_; rintro e w' ⟨rfl, hw⟩; obtain rfl := hw.symm; clear hw)
      go_ret
      exact ⟨ret_int HZ.out, FB.out⟩
    cases p2 : inB d.pu 0 2
    · have HZ : Hid ((3 : Int) = Hs.deck h d) := by
        have q := KD.out
        rw [if_neg (by rw [p2]; simp)] at q
        exact q.symm
      go_wp2_with (go_at_call 64; refine (isPhase_any _ _).mono ?_; rintro e w' ⟨rfl, hw⟩; obtain rfl := hw.symm; clear hw)
      go_ret
      exact ⟨ret_int HZ.out, FB.out⟩
    have KD : Hid ((if phB d = true then (1 : Int) else 0) = Hs.deck h d) := by
      have q := KD.out
      rw [if_pos ⟨p1, p2⟩] at q
      exact q.symm
    go_upto_region 6 with (go_at_call 64; refine (isPhase_any _ _).mono ?_; rintro e w' ⟨rfl, hw⟩; obtain rfl := hw.symm; clear hw)
    cases a1 : (d.pl == 0) <;> cases a2 : (d.sh.lo.door != 0) <;> cases a3 : (d.pu == 0) <;> cases a4 : (d.sh.up.door != 0)
    all_goals
      have q := KD.out
      unfold phB at q
      rw [a1, a2, a3, a4] at q
      simp at q
      have HQ : Hid _ := q
      clear q KD
      go_wp2_with fail
      go_ret
      exact ⟨ret_int (by first | exact HQ.out | exact HQ.out.symm), FB.out⟩
set_option maxRecDepth 20000 in
set_option maxHeartbeats 32000000 in
theorem implGroupFault_any (h : Hs) (ds : List Dk) (da : Option Addr) (dc : Nat) (nx : Int) (ps : List Pe) (pa : Option Addr) (pc : Nat) (tk : Int) (rc : Bool) (hld : ds.length ≤ 1048576) (hlp : ps.length ≤ 1048576) (w : World) (hD : DIn w w.heap.size da ds) (hP : PIn w w.heap.size pa ps) :
    Calls Tryz.prog 18 #[.agg #[.int .i64 h.fl, .int .i64 h.gp, .int .i64 h.ln, .int .i64 h.rf, .int .i64 h.sp, .int .i64 h.pu, .int .i64 h.br, .int .i64 h.dr, .int .i64 h.lv, .int .i64 h.dO, .int .i64 h.ld, .int .i64 h.qu, .slice da ds.length dc, .int .i64 nx, .slice pa ps.length pc, .int .i64 tk, .bool rc]] w fun e w' => e = .returned (.int .i64 (Gr.fault ⟨h, ds, ⟨nx, ps⟩, tk, rc⟩)) ∧ Below w.heap.size w w' := by
  have HD : Hid (DIn w w.heap.size da ds) := hD
  have HP : Hid (PIn w w.heap.size pa ps) := hP
  have F0 : Hid (Blk (w.alloc (.cells #[.int .i64 h.fl, .int .i64 h.gp, .int .i64 h.ln, .int .i64 h.rf, .int .i64 h.sp, .int .i64 h.pu, .int .i64 h.br, .int .i64 h.dr, .int .i64 h.lv, .int .i64 h.dO, .int .i64 h.ld, .int .i64 h.qu, .slice da ds.length dc, .int .i64 nx, .slice pa ps.length pc, .int .i64 tk, .bool rc] 38)) w.heap.size (gvs h (.slice da ds.length dc) nx (.slice pa ps.length pc) tk rc)) := Blk.at_ w #[.int .i64 h.fl, .int .i64 h.gp, .int .i64 h.ln, .int .i64 h.rf, .int .i64 h.sp, .int .i64 h.pu, .int .i64 h.br, .int .i64 h.dr, .int .i64 h.lv, .int .i64 h.dO, .int .i64 h.ld, .int .i64 h.qu, .slice da ds.length dc, .int .i64 nx, .slice pa ps.length pc, .int .i64 tk, .bool rc] _ _ rfl
  have FB : Hid (Below w.heap.size w (w.alloc (.cells #[.int .i64 h.fl, .int .i64 h.gp, .int .i64 h.ln, .int .i64 h.rf, .int .i64 h.sp, .int .i64 h.pu, .int .i64 h.br, .int .i64 h.dr, .int .i64 h.lv, .int .i64 h.dO, .int .i64 h.ld, .int .i64 h.qu, .slice da ds.length dc, .int .i64 nx, .slice pa ps.length pc, .int .i64 tk, .bool rc] 38))) := (Below.refl _ _).alloc (Nat.le_refl _) _
  obtain ⟨W0, hW0⟩ : ∃ W0, W0 = (w.alloc (.cells #[.int .i64 h.fl, .int .i64 h.gp, .int .i64 h.ln, .int .i64 h.rf, .int .i64 h.sp, .int .i64 h.pu, .int .i64 h.br, .int .i64 h.dr, .int .i64 h.lv, .int .i64 h.dO, .int .i64 h.ld, .int .i64 h.qu, .slice da ds.length dc, .int .i64 nx, .slice pa ps.length pc, .int .i64 tk, .bool rc] 38)) := ⟨_, rfl⟩
  rw [← hW0] at F0 FB
  have HW0 : Hid (W0 = (w.alloc (.cells #[.int .i64 h.fl, .int .i64 h.gp, .int .i64 h.ln, .int .i64 h.rf, .int .i64 h.sp, .int .i64 h.pu, .int .i64 h.br, .int .i64 h.dr, .int .i64 h.lv, .int .i64 h.dO, .int .i64 h.ld, .int .i64 h.qu, .slice da ds.length dc, .int .i64 nx, .slice pa ps.length pc, .int .i64 tk, .bool rc] 38))) := hW0
  clear hW0 hD hP
  unfold Gr.fault
  dsimp only
  by_cases hf : h.fault = 0
  case neg =>
    rw [if_neg hf]
    have hn : (h.fault != 0) = true := by simpa using hf
    clear hf
    go_enter Tryz.func18, Tryz.ntmps18
    go_upto_region 1 with fail
    rw [← HW0.out]
    have x0 := F0.out.c 0 _ rfl
    have x1 := F0.out.c 1 _ rfl
    have x2 := F0.out.c 2 _ rfl
    have x3 := F0.out.c 3 _ rfl
    have x4 := F0.out.c 4 _ rfl
    have x5 := F0.out.c 5 _ rfl
    have x6 := F0.out.c 6 _ rfl
    have x7 := F0.out.c 7 _ rfl
    have x8 := F0.out.c 8 _ rfl
    have x9 := F0.out.c 9 _ rfl
    have x10 := F0.out.c 10 _ rfl
    have x11 := F0.out.c 11 _ rfl
    have x12 := F0.out.c 12 _ rfl
    have x13 := F0.out.c 13 _ rfl
    have x14 := F0.out.c 14 _ rfl
    have x15 := F0.out.c 15 _ rfl
    have x16 := F0.out.c 16 _ rfl
    go_wp2_with (go_at_call 37; refine (implFault_any h _).mono ?_; rintro e w1 ⟨rfl, hb⟩; have F0 : Hid (Blk w1 w.heap.size (gvs h (.slice da ds.length dc) nx (.slice pa ps.length pc) tk rc)) := F0.out.below hb F0.out.lt; have FB : Hid (Below w.heap.size w w1) := FB.out.trans (hb.mono FB.out.size); clear hb; have x0 := F0.out.c 0 _ rfl; have x1 := F0.out.c 1 _ rfl; have x2 := F0.out.c 2 _ rfl; have x3 := F0.out.c 3 _ rfl; have x4 := F0.out.c 4 _ rfl; have x5 := F0.out.c 5 _ rfl; have x6 := F0.out.c 6 _ rfl; have x7 := F0.out.c 7 _ rfl; have x8 := F0.out.c 8 _ rfl; have x9 := F0.out.c 9 _ rfl; have x10 := F0.out.c 10 _ rfl; have x11 := F0.out.c 11 _ rfl; have x12 := F0.out.c 12 _ rfl; have x13 := F0.out.c 13 _ rfl; have x14 := F0.out.c 14 _ rfl; have x15 := F0.out.c 15 _ rfl; have x16 := F0.out.c 16 _ rfl)
    go_ret
    exact ⟨rfl, FB.out⟩
  rw [if_pos hf]
  obtain ⟨r, hr⟩ : ∃ r, Gr.faultC ⟨h, ds, ⟨nx, ps⟩, tk, rc⟩ = r := ⟨_, rfl⟩
  rw [hr]
  have HR : Hid (Gr.faultC ⟨h, ds, ⟨nx, ps⟩, tk, rc⟩ = r) := hr
  clear hr
  unfold Gr.faultC at HR
  dsimp only at HR
  go_enter Tryz.func18, Tryz.ntmps18
  go_upto_region 1 with fail
  rw [← HW0.out]
  have x0 := F0.out.c 0 _ rfl
  have x1 := F0.out.c 1 _ rfl
  have x2 := F0.out.c 2 _ rfl
  have x3 := F0.out.c 3 _ rfl
  have x4 := F0.out.c 4 _ rfl
  have x5 := F0.out.c 5 _ rfl
  have x6 := F0.out.c 6 _ rfl
  have x7 := F0.out.c 7 _ rfl
  have x8 := F0.out.c 8 _ rfl
  have x9 := F0.out.c 9 _ rfl
  have x10 := F0.out.c 10 _ rfl
  have x11 := F0.out.c 11 _ rfl
  have x12 := F0.out.c 12 _ rfl
  have x13 := F0.out.c 13 _ rfl
  have x14 := F0.out.c 14 _ rfl
  have x15 := F0.out.c 15 _ rfl
  have x16 := F0.out.c 16 _ rfl
  go_upto_region 4 with (go_at_call 37; refine (implFault_any h _).mono ?_; rw [hf]; rintro e w1 ⟨rfl, hb⟩; have F0 : Hid (Blk w1 w.heap.size (gvs h (.slice da ds.length dc) nx (.slice pa ps.length pc) tk rc)) := F0.out.below hb F0.out.lt; have FB : Hid (Below w.heap.size w w1) := FB.out.trans (hb.mono FB.out.size); clear hb; have x0 := F0.out.c 0 _ rfl; have x1 := F0.out.c 1 _ rfl; have x2 := F0.out.c 2 _ rfl; have x3 := F0.out.c 3 _ rfl; have x4 := F0.out.c 4 _ rfl; have x5 := F0.out.c 5 _ rfl; have x6 := F0.out.c 6 _ rfl; have x7 := F0.out.c 7 _ rfl; have x8 := F0.out.c 8 _ rfl; have x9 := F0.out.c 9 _ rfl; have x10 := F0.out.c 10 _ rfl; have x11 := F0.out.c 11 _ rfl; have x12 := F0.out.c 12 _ rfl; have x13 := F0.out.c 13 _ rfl; have x14 := F0.out.c 14 _ rfl; have x15 := F0.out.c 15 _ rfl; have x16 := F0.out.c 16 _ rfl)
  cases n1 : inB (ds.length : Int) 1 3
  · have HR : Hid ((2 : Int) = r) := by
      have q := HR.out
      rw [n1, if_neg (by simp)] at q
      exact q
    go_wp2_with (go_at_call 38; refine (isWithin_any _ _ _ _).mono ?_; rintro e w' ⟨rfl, hw⟩; obtain rfl := hw.symm; clear hw)
    go_ret
    exact ⟨ret_int HR.out, FB.out⟩
  have HR : Hid ((if Hs.decks h ds = 0 then (if Hs.led h ⟨nx, ps⟩ = 0 then (if awayB ds.length ps = true then 1 else if inB tk 0 1000000000000000 = true then 0 else 3) else Hs.led h ⟨nx, ps⟩) else Hs.decks h ds) = r) := by
    have q := HR.out
    rw [n1, if_pos rfl] at q
    exact q
  go_wp2_with (go_at_call 38; refine (isWithin_any _ _ _ _).mono ?_; rintro e w' ⟨rfl, hw⟩; obtain rfl := hw.symm; clear hw)
  clear x0 x1 x2 x3 x4 x5 x6 x7 x8 x9 x10 x11 x12 x13 x14 x15 x16
  go_loopw [24] (fun ii wr => ∃ i : Nat, ii = .int .i64 i ∧ i ≤ ds.length ∧ (∀ (j : Nat) e, j < i → ds[j]? = some e → Hs.deck h e = 0) ∧ Blk wr w.heap.size (gvs h (.slice da ds.length dc) nx (.slice pa ps.length pc) tk rc) ∧ Below w.heap.size w wr) (fun ii _ => ds.length - (intOf ii).toNat)
  case atStart => exact ⟨0, rfl, by omega, fun j q hj => absurd hj (by omega), F0.out, FB.out⟩
  case round =>
    obtain ⟨i, rfl, hi, hok, h0, h1⟩ := hrel
    have HOK : Hid (∀ (j : Nat) e, j < i → ds[j]? = some e → Hs.deck h e = 0) := hok
    have F0 : Hid (Blk wr w.heap.size (gvs h (.slice da ds.length dc) nx (.slice pa ps.length pc) tk rc)) := h0
    have FB : Hid (Below w.heap.size w wr) := h1
    clear hok h0 h1
    by_cases hlt : i < ds.length
    · obtain ⟨d, hd⟩ : ∃ d, ds[i]? = some d := ⟨_, List.getElem?_eq_getElem hlt⟩
      have FS : Hid (Hs.decks h ds = if Hs.deck h d = 0 then Hs.decks h (ds.drop (i + 1)) else Hs.deck h d) := decks_step hd HOK.out
      have HOK' : Hid (Hs.deck h d = 0 → ∀ (j : Nat) e, j < i + 1 → ds[j]? = some e → Hs.deck h e = 0) := by
        intro z j e hj he
        by_cases ej : j = i
        · subst ej
          rw [hd] at he
          cases he
          exact z
        · exact HOK.out j e (by omega) he
      have HBAD : Hid (∀ c, c ≠ 0 → Hs.deck h d = c → c = r) := by
        intro c cz hc
        have q := FS.out
        rw [hc, if_neg cz] at q
        have z := HR.out
        rw [q, if_neg cz] at z
        exact z
      rcases HD.out with hz | ⟨b, o, ha, hbl, h13⟩
      · rw [hz] at hlt; simp at hlt
      subst ha
      obtain ⟨c0, c1, c2, c3, c4, c5, c6, c7, c8, c9, c10, c11, c12⟩ := (h13 i d hd).below FB.out hbl
      clear h13 hd HOK FS
      have x0 := F0.out.c 0 _ rfl
      have x1 := F0.out.c 1 _ rfl
      have x2 := F0.out.c 2 _ rfl
      have x3 := F0.out.c 3 _ rfl
      have x4 := F0.out.c 4 _ rfl
      have x5 := F0.out.c 5 _ rfl
      have x6 := F0.out.c 6 _ rfl
      have x7 := F0.out.c 7 _ rfl
      have x8 := F0.out.c 8 _ rfl
      have x9 := F0.out.c 9 _ rfl
      have x10 := F0.out.c 10 _ rfl
      have x11 := F0.out.c 11 _ rfl
      have x12 := F0.out.c 12 _ rfl
      have x13 := F0.out.c 13 _ rfl
      have x14 := F0.out.c 14 _ rfl
      have x15 := F0.out.c 15 _ rfl
      have x16 := F0.out.c 16 _ rfl
      go_upto_region 9 with fail
      obtain ⟨db, hdb⟩ : ∃ db, db = wr.heap.size := ⟨_, rfl⟩
      obtain ⟨W1, hW1⟩ : ∃ W1, W1 = wr.alloc (.cells #[.int .i64 d.sh.lo.pos, .int .i64 d.sh.lo.vel, .int .i64 d.sh.lo.door, .int .i64 d.sh.up.pos, .int .i64 d.sh.up.vel, .int .i64 d.sh.up.door, .int .i64 d.sp.l.lo, .int .i64 d.sp.l.hi, .int .i64 d.sp.u.lo, .int .i64 d.sp.u.hi, .int .i64 d.pl, .int .i64 d.pu, .bool d.hd] 55) := ⟨_, rfl⟩
      have F0 : Hid (Blk W1 w.heap.size (gvs h (.slice (some ⟨b, o, none⟩) ds.length dc) nx (.slice pa ps.length pc) tk rc)) := by rw [hW1]; exact F0.out.alloc _
      have FD : Hid (Blk W1 db (cellsD d)) := by rw [hW1]; exact Blk.at_ wr #[.int .i64 d.sh.lo.pos, .int .i64 d.sh.lo.vel, .int .i64 d.sh.lo.door, .int .i64 d.sh.up.pos, .int .i64 d.sh.up.vel, .int .i64 d.sh.up.door, .int .i64 d.sp.l.lo, .int .i64 d.sp.l.hi, .int .i64 d.sp.u.lo, .int .i64 d.sp.u.hi, .int .i64 d.pl, .int .i64 d.pu, .bool d.hd] _ _ hdb
      have FB : Hid (Below w.heap.size w W1) := by rw [hW1]; exact FB.out.alloc FB.out.size _
      rw [← hW1, ← hdb]
      clear hW1 hdb c0 c1 c2 c3 c4 c5 c6 c7 c8 c9 c10 c11 c12
      have x0 := F0.out.c 0 _ rfl
      have x1 := F0.out.c 1 _ rfl
      have x2 := F0.out.c 2 _ rfl
      have x3 := F0.out.c 3 _ rfl
      have x4 := F0.out.c 4 _ rfl
      have x5 := F0.out.c 5 _ rfl
      have x6 := F0.out.c 6 _ rfl
      have x7 := F0.out.c 7 _ rfl
      have x8 := F0.out.c 8 _ rfl
      have x9 := F0.out.c 9 _ rfl
      have x10 := F0.out.c 10 _ rfl
      have x11 := F0.out.c 11 _ rfl
      have x12 := F0.out.c 12 _ rfl
      have x13 := F0.out.c 13 _ rfl
      have x14 := F0.out.c 14 _ rfl
      have x15 := F0.out.c 15 _ rfl
      have x16 := F0.out.c 16 _ rfl
      have y0 := FD.out.c 0 _ rfl
      have y1 := FD.out.c 1 _ rfl
      have y2 := FD.out.c 2 _ rfl
      have y3 := FD.out.c 3 _ rfl
      have y4 := FD.out.c 4 _ rfl
      have y5 := FD.out.c 5 _ rfl
      have y6 := FD.out.c 6 _ rfl
      have y7 := FD.out.c 7 _ rfl
      have y8 := FD.out.c 8 _ rfl
      have y9 := FD.out.c 9 _ rfl
      have y10 := FD.out.c 10 _ rfl
      have y11 := FD.out.c 11 _ rfl
      have y12 := FD.out.c 12 _ rfl
      go_upto_region 10 with (first | (refine load_blk 55 _ Tryz.underlying55 (by kernel_rfl) FD.out rfl rfl rfl ?_) | (go_at_call 39; refine (deckFault_any h d _).mono ?_; rintro e w2 ⟨rfl, hb⟩; have F0 : Hid (Blk w2 w.heap.size (gvs h (.slice (some ⟨b, o, none⟩) ds.length dc) nx (.slice pa ps.length pc) tk rc)) := F0.out.below hb F0.out.lt; have FD : Hid (Blk w2 db (cellsD d)) := FD.out.below hb FD.out.lt; have FB : Hid (Below w.heap.size w w2) := FB.out.trans (hb.mono FB.out.size); clear hb))
      by_cases k1 : Hs.deck h d = 0
      case neg =>
        have hn : (Hs.deck h d != 0) = true := by simpa using k1
        have HZ : Hid (Hs.deck h d = r) := HBAD.out _ k1 rfl
        clear k1
        go_wp2_with fail
        go_ret
        exact ⟨ret_int HZ.out, FB.out⟩
      have hn1 : (Hs.deck h d != 0) = false := by simpa using k1
      have HN : Hid (∀ (j : Nat) e, j < i + 1 → ds[j]? = some e → Hs.deck h e = 0) := HOK'.out k1
      clear k1
      go_wp2_with fail
      go_roundw
      case rel => exact ⟨i + 1, by simp, by omega, HN.out, F0.out, FB.out⟩
      case measure => simp [intOf]; omega
    · have ei : i = ds.length := by omega
      subst ei
      have hz : Hs.decks h ds = 0 := decks_all (fun j e he => HOK.out j e (List.getElem?_eq_some_iff.1 he).1 he)
      have HR : Hid ((if Hs.led h ⟨nx, ps⟩ = 0 then (if awayB ds.length ps = true then 1 else if inB tk 0 1000000000000000 = true then 0 else 3) else Hs.led h ⟨nx, ps⟩) = r) := by
        have q := HR.out
        rw [if_pos hz] at q
        exact q
      clear hz HOK hlt hi
      have x0 := F0.out.c 0 _ rfl
      have x1 := F0.out.c 1 _ rfl
      have x2 := F0.out.c 2 _ rfl
      have x3 := F0.out.c 3 _ rfl
      have x4 := F0.out.c 4 _ rfl
      have x5 := F0.out.c 5 _ rfl
      have x6 := F0.out.c 6 _ rfl
      have x7 := F0.out.c 7 _ rfl
      have x8 := F0.out.c 8 _ rfl
      have x9 := F0.out.c 9 _ rfl
      have x10 := F0.out.c 10 _ rfl
      have x11 := F0.out.c 11 _ rfl
      have x12 := F0.out.c 12 _ rfl
      have x13 := F0.out.c 13 _ rfl
      have x14 := F0.out.c 14 _ rfl
      have x15 := F0.out.c 15 _ rfl
      have x16 := F0.out.c 16 _ rfl
      go_upto_region 14 with (go_at_call 40; refine (implLedgerFault_any h ⟨nx, ps⟩ pa pc hlp _ ((HP.out.below FB.out (Nat.le_refl _)).mono FB.out.size)).mono ?_; rintro e w2 ⟨rfl, hb⟩; have F0 : Hid (Blk w2 w.heap.size (gvs h (.slice da ds.length dc) nx (.slice pa ps.length pc) tk rc)) := F0.out.below hb F0.out.lt; have FB : Hid (Below w.heap.size w w2) := FB.out.trans (hb.mono FB.out.size); clear hb; have x0 := F0.out.c 0 _ rfl; have x1 := F0.out.c 1 _ rfl; have x2 := F0.out.c 2 _ rfl; have x3 := F0.out.c 3 _ rfl; have x4 := F0.out.c 4 _ rfl; have x5 := F0.out.c 5 _ rfl; have x6 := F0.out.c 6 _ rfl; have x7 := F0.out.c 7 _ rfl; have x8 := F0.out.c 8 _ rfl; have x9 := F0.out.c 9 _ rfl; have x10 := F0.out.c 10 _ rfl; have x11 := F0.out.c 11 _ rfl; have x12 := F0.out.c 12 _ rfl; have x13 := F0.out.c 13 _ rfl; have x14 := F0.out.c 14 _ rfl; have x15 := F0.out.c 15 _ rfl; have x16 := F0.out.c 16 _ rfl)
      by_cases k3 : Hs.led h ⟨nx, ps⟩ = 0
      case neg =>
        have hn : (Hs.led h ⟨nx, ps⟩ != 0) = true := by simpa using k3
        have HR : Hid (Hs.led h ⟨nx, ps⟩ = r) := by
          have q := HR.out
          rw [if_neg k3] at q
          exact q
        clear k3
        go_wp2_with fail
        go_ret
        exact ⟨ret_int HR.out, FB.out⟩
      have hn3 : (Hs.led h ⟨nx, ps⟩ != 0) = false := by simpa using k3
      have KL : Hid (∀ (j : Nat) q, ps[j]? = some q → 0 ≤ q.sh) := fun j q hq => (inP_parts (persC_iff.1 (pers_iff.1 ((led_zero_iff.1 k3).ps j q hq)).2.2).2.1).1.1
      have HR : Hid ((if awayB ds.length ps = true then 1 else if inB tk 0 1000000000000000 = true then 0 else 3) = r) := by
        have q := HR.out
        rw [if_pos k3] at q
        exact q
      clear k3
      go_wp2_with fail
      clear x0 x1 x2 x3 x4 x5 x6 x7 x8 x9 x10 x11 x12 x13 x14 x15 x16
      go_loopw [48] (fun ii wr => ∃ i : Nat, ii = .int .i64 i ∧ i ≤ ps.length ∧ (∀ (j : Nat) q, j < i → ps[j]? = some q → q.sh < (ds.length : Int)) ∧ Blk wr w.heap.size (gvs h (.slice da ds.length dc) nx (.slice pa ps.length pc) tk rc) ∧ Below w.heap.size w wr) (fun ii _ => ps.length - (intOf ii).toNat)
      case atStart => exact ⟨0, rfl, by omega, fun j q hj => absurd hj (by omega), F0.out, FB.out⟩
      case round =>
        obtain ⟨i, rfl, hi, hok, h0, h1⟩ := hrel
        have HOK : Hid (∀ (j : Nat) q, j < i → ps[j]? = some q → q.sh < (ds.length : Int)) := hok
        have F0 : Hid (Blk wr w.heap.size (gvs h (.slice da ds.length dc) nx (.slice pa ps.length pc) tk rc)) := h0
        have FB : Hid (Below w.heap.size w wr) := h1
        clear hok h0 h1
        have x0 := F0.out.c 0 _ rfl
        have x1 := F0.out.c 1 _ rfl
        have x2 := F0.out.c 2 _ rfl
        have x3 := F0.out.c 3 _ rfl
        have x4 := F0.out.c 4 _ rfl
        have x5 := F0.out.c 5 _ rfl
        have x6 := F0.out.c 6 _ rfl
        have x7 := F0.out.c 7 _ rfl
        have x8 := F0.out.c 8 _ rfl
        have x9 := F0.out.c 9 _ rfl
        have x10 := F0.out.c 10 _ rfl
        have x11 := F0.out.c 11 _ rfl
        have x12 := F0.out.c 12 _ rfl
        have x13 := F0.out.c 13 _ rfl
        have x14 := F0.out.c 14 _ rfl
        have x15 := F0.out.c 15 _ rfl
        have x16 := F0.out.c 16 _ rfl
        by_cases hlt : i < ps.length
        · obtain ⟨p, hp⟩ : ∃ p, ps[i]? = some p := ⟨_, List.getElem?_eq_getElem hlt⟩
          have s0 := KL.out i p hp
          rcases HP.out with hz | ⟨b, o, ha, hbl, h7⟩
          · rw [hz] at hlt; simp at hlt
          subst ha
          obtain ⟨c0, c1, c2, c3, c4, c5, c6⟩ := (h7 i p hp).below FB.out hbl
          obtain ⟨bk, hbk⟩ : ∃ bk, inB p.sh 0 ((ds.length : Int) - 1) = bk := ⟨_, rfl⟩
          have KI : Hid (inB p.sh 0 ((ds.length : Int) - 1) = bk) := hbk
          have HRB : Hid (bk = false → (1 : Int) = r) := by
            intro z
            have kc : (ds.length : Int) ≤ p.sh := by
              rw [z] at hbk
              by_cases q : (ds.length : Int) ≤ p.sh
              · exact q
              · rw [inB_yes s0 (by omega)] at hbk; cases hbk
            have q := HR.out
            rw [away_step hp kc, if_pos rfl] at q
            exact q
          have HN : Hid (bk = true → ∀ (j : Nat) q, j < i + 1 → ps[j]? = some q → q.sh < (ds.length : Int)) := by
            intro z j q hj hq
            rw [z] at hbk
            have := inB_iff.1 hbk
            by_cases ej : j = i
            · subst ej
              rw [hp] at hq
              cases hq
              omega
            · exact HOK.out j q (by omega) hq
          clear h7 hp s0 hbk
          go_upto_region 19 with fail
          obtain ⟨pb, hpb⟩ : ∃ pb, pb = wr.heap.size := ⟨_, rfl⟩
          obtain ⟨W1, hW1⟩ : ∃ W1, W1 = wr.alloc (.cells #[.int .i64 p.id, .int .i64 p.fr, .int .i64 p.tw, .int .i64 p.sh, .int .i64 p.ca, .int .i64 p.st, .int .i64 p.pl] 58) := ⟨_, rfl⟩
          have F0 : Hid (Blk W1 w.heap.size (gvs h (.slice da ds.length dc) nx (.slice (some ⟨b, o, none⟩) ps.length pc) tk rc)) := by rw [hW1]; exact F0.out.alloc _
          have FP : Hid (Blk W1 pb (cells7 p)) := by rw [hW1]; exact Blk.at_ wr #[.int .i64 p.id, .int .i64 p.fr, .int .i64 p.tw, .int .i64 p.sh, .int .i64 p.ca, .int .i64 p.st, .int .i64 p.pl] _ _ hpb
          have FB : Hid (Below w.heap.size w W1) := by rw [hW1]; exact FB.out.alloc FB.out.size _
          rw [← hW1, ← hpb]
          clear hW1 hpb c0 c1 c2 c3 c4 c5 c6
          have x0 := F0.out.c 0 _ rfl
          have x1 := F0.out.c 1 _ rfl
          have x2 := F0.out.c 2 _ rfl
          have x3 := F0.out.c 3 _ rfl
          have x4 := F0.out.c 4 _ rfl
          have x5 := F0.out.c 5 _ rfl
          have x6 := F0.out.c 6 _ rfl
          have x7 := F0.out.c 7 _ rfl
          have x8 := F0.out.c 8 _ rfl
          have x9 := F0.out.c 9 _ rfl
          have x10 := F0.out.c 10 _ rfl
          have x11 := F0.out.c 11 _ rfl
          have x12 := F0.out.c 12 _ rfl
          have x13 := F0.out.c 13 _ rfl
          have x14 := F0.out.c 14 _ rfl
          have x15 := F0.out.c 15 _ rfl
          have x16 := F0.out.c 16 _ rfl
          have z0 := FP.out.c 0 _ rfl
          have z1 := FP.out.c 1 _ rfl
          have z2 := FP.out.c 2 _ rfl
          have z3 := FP.out.c 3 _ rfl
          have z4 := FP.out.c 4 _ rfl
          have z5 := FP.out.c 5 _ rfl
          have z6 := FP.out.c 6 _ rfl
          go_upto_if 56 with (first | (refine load_blk 38 _ Tryz.underlying38 (by kernel_rfl) F0.out rfl rfl rfl ?_) | (go_at_call 41; refine (isDeck_any h da ds.length dc nx (some ⟨b, o, none⟩) ps.length pc tk rc p.sh hld _).mono ?_; rw [KI.out]; rintro e w2 ⟨rfl, hb⟩; have F0 : Hid (Blk w2 w.heap.size (gvs h (.slice da ds.length dc) nx (.slice (some ⟨b, o, none⟩) ps.length pc) tk rc)) := F0.out.below hb F0.out.lt; have FB : Hid (Below w.heap.size w w2) := FB.out.trans (hb.mono FB.out.size); clear hb))
          cases bk
          · have HR : Hid ((1 : Int) = r) := HRB.out rfl
            go_wp2_with fail
            go_ret
            exact ⟨ret_int HR.out, FB.out⟩
          · have HM : Hid (∀ (j : Nat) q, j < i + 1 → ps[j]? = some q → q.sh < (ds.length : Int)) := HN.out rfl
            go_wp2_with fail
            go_roundw
            case rel => exact ⟨i + 1, by simp, by omega, HM.out, F0.out, FB.out⟩
            case measure => simp [intOf]; omega
        · have ei : i = ps.length := by omega
          subst ei
          have hz : awayB ds.length ps = false := away_none HOK.out
          have HR : Hid ((if inB tk 0 1000000000000000 = true then (0 : Int) else 3) = r) := by
            have q := HR.out
            rw [hz, if_neg (by simp)] at q
            exact q
          clear hz HOK hlt hi
          cases k5 : inB tk 0 1000000000000000
          · have HR : Hid ((3 : Int) = r) := by
              have q := HR.out
              rw [k5, if_neg (by simp)] at q
              exact q
            go_wp2_with (go_at_call 38; refine (isWithin_any _ _ _ _).mono ?_; rintro e w' ⟨rfl, hw⟩; obtain rfl := hw.symm; clear hw)
            go_ret
            exact ⟨ret_int HR.out, FB.out⟩
          · have HR : Hid ((0 : Int) = r) := by
              have q := HR.out
              rw [k5, if_pos rfl] at q
              exact q
            go_wp2_with (go_at_call 38; refine (isWithin_any _ _ _ _).mono ?_; rintro e w' ⟨rfl, hw⟩; obtain rfl := hw.symm; clear hw)
            go_ret
            exact ⟨ret_int HR.out, FB.out⟩
end Go.Proofs.YtnfdplfifpmhoaaGreatDoor
