/-
  What is asked of an event: the model and the program.
-/
import Derived.Test.YtoacnglcneliiaaGreatDoorEvt
import Derived.Test.YtoacnglcneliiaaGreatDoorLedA
import Derived.Test.YtoacnglcneliiaaGreatDoorPersE
namespace Go.Proofs.YtoacnglcneliiaaGreatDoor
open Go.RowKit Pl
set_option linter.unusedSimpArgs false
set_option linter.unusedVariables false

set_option maxRecDepth 20000 in
set_option maxHeartbeats 8000000 in
theorem specEvent_any (h : Hs) (e : Ev) (w : World) :
    Calls Tryz.prog 30 #[.agg #[.int .i64 h.fl, .int .i64 h.gp, .int .i64 h.ln, .int .i64 h.rf, .int .i64 h.sp, .int .i64 h.pu, .int .i64 h.br, .int .i64 h.dr, .int .i64 h.lv, .int .i64 h.dO, .int .i64 h.ld, .int .i64 h.qu], .agg #[.int .i64 e.tk, .int .i64 e.kd, .int .i64 e.id, .int .i64 e.fl, .int .i64 e.tw]] w fun r w' => r = .returned (.int .i64 (Hs.ev h e)) ∧ Below w.heap.size w w' := by
  have F0 : Hid (HAt ((w.alloc (.cells #[.int .i64 h.fl, .int .i64 h.gp, .int .i64 h.ln, .int .i64 h.rf, .int .i64 h.sp, .int .i64 h.pu, .int .i64 h.br, .int .i64 h.dr, .int .i64 h.lv, .int .i64 h.dO, .int .i64 h.ld, .int .i64 h.qu] 25)).alloc (.cells #[.int .i64 e.tk, .int .i64 e.kd, .int .i64 e.id, .int .i64 e.fl, .int .i64 e.tw] 34)) w.heap.size h) := (HAt.at_ w h _ _ (by simp)).alloc _
  have F1 : Hid (EvW ((w.alloc (.cells #[.int .i64 h.fl, .int .i64 h.gp, .int .i64 h.ln, .int .i64 h.rf, .int .i64 h.sp, .int .i64 h.pu, .int .i64 h.br, .int .i64 h.dr, .int .i64 h.lv, .int .i64 h.dO, .int .i64 h.ld, .int .i64 h.qu] 25)).alloc (.cells #[.int .i64 e.tk, .int .i64 e.kd, .int .i64 e.id, .int .i64 e.fl, .int .i64 e.tw] 34)) (w.heap.size + 1) e) := EvW.at_ (w.alloc (.cells #[.int .i64 h.fl, .int .i64 h.gp, .int .i64 h.ln, .int .i64 h.rf, .int .i64 h.sp, .int .i64 h.pu, .int .i64 h.br, .int .i64 h.dr, .int .i64 h.lv, .int .i64 h.dO, .int .i64 h.ld, .int .i64 h.qu] 25)) e _ _ (by simp)
  have FB : Hid (Below w.heap.size w ((w.alloc (.cells #[.int .i64 h.fl, .int .i64 h.gp, .int .i64 h.ln, .int .i64 h.rf, .int .i64 h.sp, .int .i64 h.pu, .int .i64 h.br, .int .i64 h.dr, .int .i64 h.lv, .int .i64 h.dO, .int .i64 h.ld, .int .i64 h.qu] 25)).alloc (.cells #[.int .i64 e.tk, .int .i64 e.kd, .int .i64 e.id, .int .i64 e.fl, .int .i64 e.tw] 34))) := (((Below.refl _ _).alloc (Nat.le_refl _) _).alloc (by simp <;> omega) _)
  obtain ⟨k, hk⟩ : ∃ k, Hs.ev h e = k := ⟨_, rfl⟩
  rw [hk]
  by_cases hf : h.fault = 0
  · have oo := Hs.ok_of (Hs.fault_zero hf).1
    have f1 := oo.fl1; have f2 := oo.fl2
    have en : IntKind.i64.wrap (h.fl - 1) = h.fl - 1 := IntWalk.i64_in _ (by omega)
    have hcl : Hs.call h e.fl e.tw = Hs.callC h e.fl e.tw := by unfold Hs.call; rw [if_pos hf]
    have hv : Hs.evC h e = k := by rw [← hk]; unfold Hs.ev; rw [if_pos hf]
    clear oo hk
    unfold Hs.evC at hv
    cases i1 : inB e.tk 0 1000000000000000
    · have HV : Hid ((3 : Int) = k) := by rw [i1, Bool.false_and, if_neg (by decide)] at hv; exact hv
      clear hv
      go_enter Tryz.func30, Tryz.ntmps30
      go_wp2_with (first | (go_at_call 29; refine (specFault_any h _).mono ?_; rintro r w1 ⟨rfl, hb⟩; have F0 : Hid (HAt w1 w.heap.size h) := F0.out.below hb F0.out.lt; have F1 : Hid (EvW w1 (w.heap.size + 1) e) := F1.out.below hb F1.out.lt; have FB : Hid (Below w.heap.size w w1) := FB.out.trans (hb.mono FB.out.size); obtain ⟨x0_0, x0_1, x0_2, x0_3, x0_4, x0_5, x0_6, x0_7, x0_8, x0_9, x0_10, x0_11⟩ := F0.out; obtain ⟨x1_0, x1_1, x1_2, x1_3, x1_4, y1_0, y1_1, y1_2, y1_3, y1_4⟩ := F1.out; clear hb) | (go_at_call 58; refine (l1In_any _ _ _ _).mono ?_; rintro r w' ⟨rfl, hw⟩; obtain rfl := hw.symm; clear hw) | (go_at_call 59; refine (specCallFault_any h _ _ _).mono ?_; rw [hcl]; rintro r w3 ⟨rfl, hb⟩; have F0 : Hid (HAt w3 w.heap.size h) := F0.out.below hb F0.out.lt; have F1 : Hid (EvW w3 (w.heap.size + 1) e) := F1.out.below hb F1.out.lt; have FB : Hid (Below w.heap.size w w3) := FB.out.trans (hb.mono FB.out.size); obtain ⟨x0_0, x0_1, x0_2, x0_3, x0_4, x0_5, x0_6, x0_7, x0_8, x0_9, x0_10, x0_11⟩ := F0.out; obtain ⟨x1_0, x1_1, x1_2, x1_3, x1_4, y1_0, y1_1, y1_2, y1_3, y1_4⟩ := F1.out; clear hb))
      go_ret
      exact ⟨ret_int HV.out, FB.out⟩
    cases i2 : inB e.id 1 1000000000000000
    · have HV : Hid ((3 : Int) = k) := by rw [i1, i2, if_neg (by decide)] at hv; exact hv
      clear hv
      go_enter Tryz.func30, Tryz.ntmps30
      go_wp2_with (first | (go_at_call 29; refine (specFault_any h _).mono ?_; rintro r w1 ⟨rfl, hb⟩; have F0 : Hid (HAt w1 w.heap.size h) := F0.out.below hb F0.out.lt; have F1 : Hid (EvW w1 (w.heap.size + 1) e) := F1.out.below hb F1.out.lt; have FB : Hid (Below w.heap.size w w1) := FB.out.trans (hb.mono FB.out.size); obtain ⟨x0_0, x0_1, x0_2, x0_3, x0_4, x0_5, x0_6, x0_7, x0_8, x0_9, x0_10, x0_11⟩ := F0.out; obtain ⟨x1_0, x1_1, x1_2, x1_3, x1_4, y1_0, y1_1, y1_2, y1_3, y1_4⟩ := F1.out; clear hb) | (go_at_call 58; refine (l1In_any _ _ _ _).mono ?_; rintro r w' ⟨rfl, hw⟩; obtain rfl := hw.symm; clear hw) | (go_at_call 59; refine (specCallFault_any h _ _ _).mono ?_; rw [hcl]; rintro r w3 ⟨rfl, hb⟩; have F0 : Hid (HAt w3 w.heap.size h) := F0.out.below hb F0.out.lt; have F1 : Hid (EvW w3 (w.heap.size + 1) e) := F1.out.below hb F1.out.lt; have FB : Hid (Below w.heap.size w w3) := FB.out.trans (hb.mono FB.out.size); obtain ⟨x0_0, x0_1, x0_2, x0_3, x0_4, x0_5, x0_6, x0_7, x0_8, x0_9, x0_10, x0_11⟩ := F0.out; obtain ⟨x1_0, x1_1, x1_2, x1_3, x1_4, y1_0, y1_1, y1_2, y1_3, y1_4⟩ := F1.out; clear hb))
      go_ret
      exact ⟨ret_int HV.out, FB.out⟩
    rw [i1, i2, if_pos (by decide)] at hv
    cases i3 : inB e.kd 1 5
    · have HV : Hid ((5 : Int) = k) := by rw [i3, if_neg (by decide)] at hv; exact hv
      clear hv
      go_enter Tryz.func30, Tryz.ntmps30
      go_wp2_with (first | (go_at_call 29; refine (specFault_any h _).mono ?_; rintro r w1 ⟨rfl, hb⟩; have F0 : Hid (HAt w1 w.heap.size h) := F0.out.below hb F0.out.lt; have F1 : Hid (EvW w1 (w.heap.size + 1) e) := F1.out.below hb F1.out.lt; have FB : Hid (Below w.heap.size w w1) := FB.out.trans (hb.mono FB.out.size); obtain ⟨x0_0, x0_1, x0_2, x0_3, x0_4, x0_5, x0_6, x0_7, x0_8, x0_9, x0_10, x0_11⟩ := F0.out; obtain ⟨x1_0, x1_1, x1_2, x1_3, x1_4, y1_0, y1_1, y1_2, y1_3, y1_4⟩ := F1.out; clear hb) | (go_at_call 58; refine (l1In_any _ _ _ _).mono ?_; rintro r w' ⟨rfl, hw⟩; obtain rfl := hw.symm; clear hw) | (go_at_call 59; refine (specCallFault_any h _ _ _).mono ?_; rw [hcl]; rintro r w3 ⟨rfl, hb⟩; have F0 : Hid (HAt w3 w.heap.size h) := F0.out.below hb F0.out.lt; have F1 : Hid (EvW w3 (w.heap.size + 1) e) := F1.out.below hb F1.out.lt; have FB : Hid (Below w.heap.size w w3) := FB.out.trans (hb.mono FB.out.size); obtain ⟨x0_0, x0_1, x0_2, x0_3, x0_4, x0_5, x0_6, x0_7, x0_8, x0_9, x0_10, x0_11⟩ := F0.out; obtain ⟨x1_0, x1_1, x1_2, x1_3, x1_4, y1_0, y1_1, y1_2, y1_3, y1_4⟩ := F1.out; clear hb))
      go_ret
      exact ⟨ret_int HV.out, FB.out⟩
    rw [if_pos i3] at hv
    cases i4 : inB e.fl 0 (h.fl - 1)
    · have HV : Hid ((3 : Int) = k) := by rw [i4, if_neg (by decide)] at hv; exact hv
      clear hv
      go_enter Tryz.func30, Tryz.ntmps30
      go_wp2_with (first | (go_at_call 29; refine (specFault_any h _).mono ?_; rintro r w1 ⟨rfl, hb⟩; have F0 : Hid (HAt w1 w.heap.size h) := F0.out.below hb F0.out.lt; have F1 : Hid (EvW w1 (w.heap.size + 1) e) := F1.out.below hb F1.out.lt; have FB : Hid (Below w.heap.size w w1) := FB.out.trans (hb.mono FB.out.size); obtain ⟨x0_0, x0_1, x0_2, x0_3, x0_4, x0_5, x0_6, x0_7, x0_8, x0_9, x0_10, x0_11⟩ := F0.out; obtain ⟨x1_0, x1_1, x1_2, x1_3, x1_4, y1_0, y1_1, y1_2, y1_3, y1_4⟩ := F1.out; clear hb) | (go_at_call 58; refine (l1In_any _ _ _ _).mono ?_; rintro r w' ⟨rfl, hw⟩; obtain rfl := hw.symm; clear hw) | (go_at_call 59; refine (specCallFault_any h _ _ _).mono ?_; rw [hcl]; rintro r w3 ⟨rfl, hb⟩; have F0 : Hid (HAt w3 w.heap.size h) := F0.out.below hb F0.out.lt; have F1 : Hid (EvW w3 (w.heap.size + 1) e) := F1.out.below hb F1.out.lt; have FB : Hid (Below w.heap.size w w3) := FB.out.trans (hb.mono FB.out.size); obtain ⟨x0_0, x0_1, x0_2, x0_3, x0_4, x0_5, x0_6, x0_7, x0_8, x0_9, x0_10, x0_11⟩ := F0.out; obtain ⟨x1_0, x1_1, x1_2, x1_3, x1_4, y1_0, y1_1, y1_2, y1_3, y1_4⟩ := F1.out; clear hb))
      go_ret
      exact ⟨ret_int HV.out, FB.out⟩
    rw [if_pos i4] at hv
    cases i5 : (e.kd == 1)
    · rw [i5, if_neg (by decide)] at hv
      cases i6 : (e.tw != 0)
      · cases i7 : (e.kd == 5)
        · have HV : Hid ((0 : Int) = k) := by rw [i6, i7, Bool.false_and, Bool.false_or, if_neg (by decide)] at hv; exact hv
          clear hv
          go_enter Tryz.func30, Tryz.ntmps30
          go_wp2_with (first | (go_at_call 29; refine (specFault_any h _).mono ?_; rintro r w1 ⟨rfl, hb⟩; have F0 : Hid (HAt w1 w.heap.size h) := F0.out.below hb F0.out.lt; have F1 : Hid (EvW w1 (w.heap.size + 1) e) := F1.out.below hb F1.out.lt; have FB : Hid (Below w.heap.size w w1) := FB.out.trans (hb.mono FB.out.size); obtain ⟨x0_0, x0_1, x0_2, x0_3, x0_4, x0_5, x0_6, x0_7, x0_8, x0_9, x0_10, x0_11⟩ := F0.out; obtain ⟨x1_0, x1_1, x1_2, x1_3, x1_4, y1_0, y1_1, y1_2, y1_3, y1_4⟩ := F1.out; clear hb) | (go_at_call 58; refine (l1In_any _ _ _ _).mono ?_; rintro r w' ⟨rfl, hw⟩; obtain rfl := hw.symm; clear hw) | (go_at_call 59; refine (specCallFault_any h _ _ _).mono ?_; rw [hcl]; rintro r w3 ⟨rfl, hb⟩; have F0 : Hid (HAt w3 w.heap.size h) := F0.out.below hb F0.out.lt; have F1 : Hid (EvW w3 (w.heap.size + 1) e) := F1.out.below hb F1.out.lt; have FB : Hid (Below w.heap.size w w3) := FB.out.trans (hb.mono FB.out.size); obtain ⟨x0_0, x0_1, x0_2, x0_3, x0_4, x0_5, x0_6, x0_7, x0_8, x0_9, x0_10, x0_11⟩ := F0.out; obtain ⟨x1_0, x1_1, x1_2, x1_3, x1_4, y1_0, y1_1, y1_2, y1_3, y1_4⟩ := F1.out; clear hb))
          go_ret
          exact ⟨ret_int HV.out, FB.out⟩
        · cases i8 : (e.fl != 0)
          · have HV : Hid ((0 : Int) = k) := by rw [i6, i7, i8, if_neg (by decide)] at hv; exact hv
            clear hv
            go_enter Tryz.func30, Tryz.ntmps30
            go_wp2_with (first | (go_at_call 29; refine (specFault_any h _).mono ?_; rintro r w1 ⟨rfl, hb⟩; have F0 : Hid (HAt w1 w.heap.size h) := F0.out.below hb F0.out.lt; have F1 : Hid (EvW w1 (w.heap.size + 1) e) := F1.out.below hb F1.out.lt; have FB : Hid (Below w.heap.size w w1) := FB.out.trans (hb.mono FB.out.size); obtain ⟨x0_0, x0_1, x0_2, x0_3, x0_4, x0_5, x0_6, x0_7, x0_8, x0_9, x0_10, x0_11⟩ := F0.out; obtain ⟨x1_0, x1_1, x1_2, x1_3, x1_4, y1_0, y1_1, y1_2, y1_3, y1_4⟩ := F1.out; clear hb) | (go_at_call 58; refine (l1In_any _ _ _ _).mono ?_; rintro r w' ⟨rfl, hw⟩; obtain rfl := hw.symm; clear hw) | (go_at_call 59; refine (specCallFault_any h _ _ _).mono ?_; rw [hcl]; rintro r w3 ⟨rfl, hb⟩; have F0 : Hid (HAt w3 w.heap.size h) := F0.out.below hb F0.out.lt; have F1 : Hid (EvW w3 (w.heap.size + 1) e) := F1.out.below hb F1.out.lt; have FB : Hid (Below w.heap.size w w3) := FB.out.trans (hb.mono FB.out.size); obtain ⟨x0_0, x0_1, x0_2, x0_3, x0_4, x0_5, x0_6, x0_7, x0_8, x0_9, x0_10, x0_11⟩ := F0.out; obtain ⟨x1_0, x1_1, x1_2, x1_3, x1_4, y1_0, y1_1, y1_2, y1_3, y1_4⟩ := F1.out; clear hb))
            go_ret
            exact ⟨ret_int HV.out, FB.out⟩
          · have HV : Hid ((1 : Int) = k) := by rw [i6, i7, i8, if_pos (by decide)] at hv; exact hv
            clear hv
            go_enter Tryz.func30, Tryz.ntmps30
            go_wp2_with (first | (go_at_call 29; refine (specFault_any h _).mono ?_; rintro r w1 ⟨rfl, hb⟩; have F0 : Hid (HAt w1 w.heap.size h) := F0.out.below hb F0.out.lt; have F1 : Hid (EvW w1 (w.heap.size + 1) e) := F1.out.below hb F1.out.lt; have FB : Hid (Below w.heap.size w w1) := FB.out.trans (hb.mono FB.out.size); obtain ⟨x0_0, x0_1, x0_2, x0_3, x0_4, x0_5, x0_6, x0_7, x0_8, x0_9, x0_10, x0_11⟩ := F0.out; obtain ⟨x1_0, x1_1, x1_2, x1_3, x1_4, y1_0, y1_1, y1_2, y1_3, y1_4⟩ := F1.out; clear hb) | (go_at_call 58; refine (l1In_any _ _ _ _).mono ?_; rintro r w' ⟨rfl, hw⟩; obtain rfl := hw.symm; clear hw) | (go_at_call 59; refine (specCallFault_any h _ _ _).mono ?_; rw [hcl]; rintro r w3 ⟨rfl, hb⟩; have F0 : Hid (HAt w3 w.heap.size h) := F0.out.below hb F0.out.lt; have F1 : Hid (EvW w3 (w.heap.size + 1) e) := F1.out.below hb F1.out.lt; have FB : Hid (Below w.heap.size w w3) := FB.out.trans (hb.mono FB.out.size); obtain ⟨x0_0, x0_1, x0_2, x0_3, x0_4, x0_5, x0_6, x0_7, x0_8, x0_9, x0_10, x0_11⟩ := F0.out; obtain ⟨x1_0, x1_1, x1_2, x1_3, x1_4, y1_0, y1_1, y1_2, y1_3, y1_4⟩ := F1.out; clear hb))
            go_ret
            exact ⟨ret_int HV.out, FB.out⟩
      · have HV : Hid ((1 : Int) = k) := by rw [i6, Bool.true_or, if_pos (by decide)] at hv; exact hv
        clear hv
        go_enter Tryz.func30, Tryz.ntmps30
        go_wp2_with (first | (go_at_call 29; refine (specFault_any h _).mono ?_; rintro r w1 ⟨rfl, hb⟩; have F0 : Hid (HAt w1 w.heap.size h) := F0.out.below hb F0.out.lt; have F1 : Hid (EvW w1 (w.heap.size + 1) e) := F1.out.below hb F1.out.lt; have FB : Hid (Below w.heap.size w w1) := FB.out.trans (hb.mono FB.out.size); obtain ⟨x0_0, x0_1, x0_2, x0_3, x0_4, x0_5, x0_6, x0_7, x0_8, x0_9, x0_10, x0_11⟩ := F0.out; obtain ⟨x1_0, x1_1, x1_2, x1_3, x1_4, y1_0, y1_1, y1_2, y1_3, y1_4⟩ := F1.out; clear hb) | (go_at_call 58; refine (l1In_any _ _ _ _).mono ?_; rintro r w' ⟨rfl, hw⟩; obtain rfl := hw.symm; clear hw) | (go_at_call 59; refine (specCallFault_any h _ _ _).mono ?_; rw [hcl]; rintro r w3 ⟨rfl, hb⟩; have F0 : Hid (HAt w3 w.heap.size h) := F0.out.below hb F0.out.lt; have F1 : Hid (EvW w3 (w.heap.size + 1) e) := F1.out.below hb F1.out.lt; have FB : Hid (Below w.heap.size w w3) := FB.out.trans (hb.mono FB.out.size); obtain ⟨x0_0, x0_1, x0_2, x0_3, x0_4, x0_5, x0_6, x0_7, x0_8, x0_9, x0_10, x0_11⟩ := F0.out; obtain ⟨x1_0, x1_1, x1_2, x1_3, x1_4, y1_0, y1_1, y1_2, y1_3, y1_4⟩ := F1.out; clear hb))
        go_ret
        exact ⟨ret_int HV.out, FB.out⟩
    · have HV : Hid (Hs.callC h e.fl e.tw = k) := by rw [i5, if_pos (by decide)] at hv; exact hv
      clear hv
      go_enter Tryz.func30, Tryz.ntmps30
      go_wp2_with (first | (go_at_call 29; refine (specFault_any h _).mono ?_; rintro r w1 ⟨rfl, hb⟩; have F0 : Hid (HAt w1 w.heap.size h) := F0.out.below hb F0.out.lt; have F1 : Hid (EvW w1 (w.heap.size + 1) e) := F1.out.below hb F1.out.lt; have FB : Hid (Below w.heap.size w w1) := FB.out.trans (hb.mono FB.out.size); obtain ⟨x0_0, x0_1, x0_2, x0_3, x0_4, x0_5, x0_6, x0_7, x0_8, x0_9, x0_10, x0_11⟩ := F0.out; obtain ⟨x1_0, x1_1, x1_2, x1_3, x1_4, y1_0, y1_1, y1_2, y1_3, y1_4⟩ := F1.out; clear hb) | (go_at_call 58; refine (l1In_any _ _ _ _).mono ?_; rintro r w' ⟨rfl, hw⟩; obtain rfl := hw.symm; clear hw) | (go_at_call 59; refine (specCallFault_any h _ _ _).mono ?_; rw [hcl]; rintro r w3 ⟨rfl, hb⟩; have F0 : Hid (HAt w3 w.heap.size h) := F0.out.below hb F0.out.lt; have F1 : Hid (EvW w3 (w.heap.size + 1) e) := F1.out.below hb F1.out.lt; have FB : Hid (Below w.heap.size w w3) := FB.out.trans (hb.mono FB.out.size); obtain ⟨x0_0, x0_1, x0_2, x0_3, x0_4, x0_5, x0_6, x0_7, x0_8, x0_9, x0_10, x0_11⟩ := F0.out; obtain ⟨x1_0, x1_1, x1_2, x1_3, x1_4, y1_0, y1_1, y1_2, y1_3, y1_4⟩ := F1.out; clear hb))
      go_ret
      exact ⟨ret_int HV.out, FB.out⟩
  · have HV : Hid (h.fault = k) := by unfold Hs.ev at hk; rw [if_neg hf] at hk; exact hk
    have hn : (h.fault != 0) = true := by simpa using hf
    clear hf hk
    go_enter Tryz.func30, Tryz.ntmps30
    go_wp2_with (go_at_call 29; refine (specFault_any h _).mono ?_; rintro r w1 ⟨rfl, hb⟩; have F0 : Hid (HAt w1 w.heap.size h) := F0.out.below hb F0.out.lt; have F1 : Hid (EvW w1 (w.heap.size + 1) e) := F1.out.below hb F1.out.lt; have FB : Hid (Below w.heap.size w w1) := FB.out.trans (hb.mono FB.out.size); obtain ⟨x0_0, x0_1, x0_2, x0_3, x0_4, x0_5, x0_6, x0_7, x0_8, x0_9, x0_10, x0_11⟩ := F0.out; obtain ⟨x1_0, x1_1, x1_2, x1_3, x1_4, y1_0, y1_1, y1_2, y1_3, y1_4⟩ := F1.out; clear hb)
    go_ret
    exact ⟨ret_int HV.out, FB.out⟩
set_option maxRecDepth 20000 in
set_option maxHeartbeats 8000000 in
theorem implEvent_any (h : Hs) (e : Ev) (w : World) :
    Calls Tryz.prog 50 #[.agg #[.int .i64 h.fl, .int .i64 h.gp, .int .i64 h.ln, .int .i64 h.rf, .int .i64 h.sp, .int .i64 h.pu, .int .i64 h.br, .int .i64 h.dr, .int .i64 h.lv, .int .i64 h.dO, .int .i64 h.ld, .int .i64 h.qu], .agg #[.int .i64 e.tk, .int .i64 e.kd, .int .i64 e.id, .int .i64 e.fl, .int .i64 e.tw]] w fun r w' => r = .returned (.int .i64 (Hs.ev h e)) ∧ Below w.heap.size w w' := by
  have F0 : Hid (HAt ((w.alloc (.cells #[.int .i64 h.fl, .int .i64 h.gp, .int .i64 h.ln, .int .i64 h.rf, .int .i64 h.sp, .int .i64 h.pu, .int .i64 h.br, .int .i64 h.dr, .int .i64 h.lv, .int .i64 h.dO, .int .i64 h.ld, .int .i64 h.qu] 25)).alloc (.cells #[.int .i64 e.tk, .int .i64 e.kd, .int .i64 e.id, .int .i64 e.fl, .int .i64 e.tw] 34)) w.heap.size h) := (HAt.at_ w h _ _ (by simp)).alloc _
  have F1 : Hid (EvW ((w.alloc (.cells #[.int .i64 h.fl, .int .i64 h.gp, .int .i64 h.ln, .int .i64 h.rf, .int .i64 h.sp, .int .i64 h.pu, .int .i64 h.br, .int .i64 h.dr, .int .i64 h.lv, .int .i64 h.dO, .int .i64 h.ld, .int .i64 h.qu] 25)).alloc (.cells #[.int .i64 e.tk, .int .i64 e.kd, .int .i64 e.id, .int .i64 e.fl, .int .i64 e.tw] 34)) (w.heap.size + 1) e) := EvW.at_ (w.alloc (.cells #[.int .i64 h.fl, .int .i64 h.gp, .int .i64 h.ln, .int .i64 h.rf, .int .i64 h.sp, .int .i64 h.pu, .int .i64 h.br, .int .i64 h.dr, .int .i64 h.lv, .int .i64 h.dO, .int .i64 h.ld, .int .i64 h.qu] 25)) e _ _ (by simp)
  have FB : Hid (Below w.heap.size w ((w.alloc (.cells #[.int .i64 h.fl, .int .i64 h.gp, .int .i64 h.ln, .int .i64 h.rf, .int .i64 h.sp, .int .i64 h.pu, .int .i64 h.br, .int .i64 h.dr, .int .i64 h.lv, .int .i64 h.dO, .int .i64 h.ld, .int .i64 h.qu] 25)).alloc (.cells #[.int .i64 e.tk, .int .i64 e.kd, .int .i64 e.id, .int .i64 e.fl, .int .i64 e.tw] 34))) := (((Below.refl _ _).alloc (Nat.le_refl _) _).alloc (by simp <;> omega) _)
  obtain ⟨k, hk⟩ : ∃ k, Hs.ev h e = k := ⟨_, rfl⟩
  rw [hk]
  by_cases hf : h.fault = 0
  · have oo := Hs.ok_of (Hs.fault_zero hf).1
    have f1 := oo.fl1; have f2 := oo.fl2
    have en : IntKind.i64.wrap (h.fl - 1) = h.fl - 1 := IntWalk.i64_in _ (by omega)
    have hcl : Hs.call h e.fl e.tw = Hs.callC h e.fl e.tw := by unfold Hs.call; rw [if_pos hf]
    have hv : Hs.evC h e = k := by rw [← hk]; unfold Hs.ev; rw [if_pos hf]
    clear oo hk
    unfold Hs.evC at hv
    cases i1 : inB e.tk 0 1000000000000000
    · have HV : Hid ((3 : Int) = k) := by rw [i1, Bool.false_and, if_neg (by decide)] at hv; exact hv
      clear hv
      go_enter Tryz.func50, Tryz.ntmps50
      go_wp2_with (first | (go_at_call 17; refine (implFault_any h _).mono ?_; rintro r w1 ⟨rfl, hb⟩; have F0 : Hid (HAt w1 w.heap.size h) := F0.out.below hb F0.out.lt; have F1 : Hid (EvW w1 (w.heap.size + 1) e) := F1.out.below hb F1.out.lt; have FB : Hid (Below w.heap.size w w1) := FB.out.trans (hb.mono FB.out.size); obtain ⟨x0_0, x0_1, x0_2, x0_3, x0_4, x0_5, x0_6, x0_7, x0_8, x0_9, x0_10, x0_11⟩ := F0.out; obtain ⟨x1_0, x1_1, x1_2, x1_3, x1_4, y1_0, y1_1, y1_2, y1_3, y1_4⟩ := F1.out; clear hb) | (go_at_call 74; refine (isWithin_any _ _ _ _).mono ?_; rintro r w' ⟨rfl, hw⟩; obtain rfl := hw.symm; clear hw) | (go_at_call 75; refine (isFloor_any h _ (by omega) (by omega) _).mono ?_; rintro r w2 ⟨rfl, hb⟩; have F0 : Hid (HAt w2 w.heap.size h) := F0.out.below hb F0.out.lt; have F1 : Hid (EvW w2 (w.heap.size + 1) e) := F1.out.below hb F1.out.lt; have FB : Hid (Below w.heap.size w w2) := FB.out.trans (hb.mono FB.out.size); obtain ⟨x0_0, x0_1, x0_2, x0_3, x0_4, x0_5, x0_6, x0_7, x0_8, x0_9, x0_10, x0_11⟩ := F0.out; obtain ⟨x1_0, x1_1, x1_2, x1_3, x1_4, y1_0, y1_1, y1_2, y1_3, y1_4⟩ := F1.out; clear hb) | (go_at_call 76; refine (wayFault_any h (by omega) (by omega) _ _ _).mono ?_; rintro r w3 ⟨rfl, hb⟩; have F0 : Hid (HAt w3 w.heap.size h) := F0.out.below hb F0.out.lt; have F1 : Hid (EvW w3 (w.heap.size + 1) e) := F1.out.below hb F1.out.lt; have FB : Hid (Below w.heap.size w w3) := FB.out.trans (hb.mono FB.out.size); obtain ⟨x0_0, x0_1, x0_2, x0_3, x0_4, x0_5, x0_6, x0_7, x0_8, x0_9, x0_10, x0_11⟩ := F0.out; obtain ⟨x1_0, x1_1, x1_2, x1_3, x1_4, y1_0, y1_1, y1_2, y1_3, y1_4⟩ := F1.out; clear hb))
      go_ret
      exact ⟨ret_int HV.out, FB.out⟩
    cases i2 : inB e.id 1 1000000000000000
    · have HV : Hid ((3 : Int) = k) := by rw [i1, i2, if_neg (by decide)] at hv; exact hv
      clear hv
      go_enter Tryz.func50, Tryz.ntmps50
      go_wp2_with (first | (go_at_call 17; refine (implFault_any h _).mono ?_; rintro r w1 ⟨rfl, hb⟩; have F0 : Hid (HAt w1 w.heap.size h) := F0.out.below hb F0.out.lt; have F1 : Hid (EvW w1 (w.heap.size + 1) e) := F1.out.below hb F1.out.lt; have FB : Hid (Below w.heap.size w w1) := FB.out.trans (hb.mono FB.out.size); obtain ⟨x0_0, x0_1, x0_2, x0_3, x0_4, x0_5, x0_6, x0_7, x0_8, x0_9, x0_10, x0_11⟩ := F0.out; obtain ⟨x1_0, x1_1, x1_2, x1_3, x1_4, y1_0, y1_1, y1_2, y1_3, y1_4⟩ := F1.out; clear hb) | (go_at_call 74; refine (isWithin_any _ _ _ _).mono ?_; rintro r w' ⟨rfl, hw⟩; obtain rfl := hw.symm; clear hw) | (go_at_call 75; refine (isFloor_any h _ (by omega) (by omega) _).mono ?_; rintro r w2 ⟨rfl, hb⟩; have F0 : Hid (HAt w2 w.heap.size h) := F0.out.below hb F0.out.lt; have F1 : Hid (EvW w2 (w.heap.size + 1) e) := F1.out.below hb F1.out.lt; have FB : Hid (Below w.heap.size w w2) := FB.out.trans (hb.mono FB.out.size); obtain ⟨x0_0, x0_1, x0_2, x0_3, x0_4, x0_5, x0_6, x0_7, x0_8, x0_9, x0_10, x0_11⟩ := F0.out; obtain ⟨x1_0, x1_1, x1_2, x1_3, x1_4, y1_0, y1_1, y1_2, y1_3, y1_4⟩ := F1.out; clear hb) | (go_at_call 76; refine (wayFault_any h (by omega) (by omega) _ _ _).mono ?_; rintro r w3 ⟨rfl, hb⟩; have F0 : Hid (HAt w3 w.heap.size h) := F0.out.below hb F0.out.lt; have F1 : Hid (EvW w3 (w.heap.size + 1) e) := F1.out.below hb F1.out.lt; have FB : Hid (Below w.heap.size w w3) := FB.out.trans (hb.mono FB.out.size); obtain ⟨x0_0, x0_1, x0_2, x0_3, x0_4, x0_5, x0_6, x0_7, x0_8, x0_9, x0_10, x0_11⟩ := F0.out; obtain ⟨x1_0, x1_1, x1_2, x1_3, x1_4, y1_0, y1_1, y1_2, y1_3, y1_4⟩ := F1.out; clear hb))
      go_ret
      exact ⟨ret_int HV.out, FB.out⟩
    rw [i1, i2, if_pos (by decide)] at hv
    cases i3 : inB e.kd 1 5
    · have HV : Hid ((5 : Int) = k) := by rw [i3, if_neg (by decide)] at hv; exact hv
      clear hv
      go_enter Tryz.func50, Tryz.ntmps50
      go_wp2_with (first | (go_at_call 17; refine (implFault_any h _).mono ?_; rintro r w1 ⟨rfl, hb⟩; have F0 : Hid (HAt w1 w.heap.size h) := F0.out.below hb F0.out.lt; have F1 : Hid (EvW w1 (w.heap.size + 1) e) := F1.out.below hb F1.out.lt; have FB : Hid (Below w.heap.size w w1) := FB.out.trans (hb.mono FB.out.size); obtain ⟨x0_0, x0_1, x0_2, x0_3, x0_4, x0_5, x0_6, x0_7, x0_8, x0_9, x0_10, x0_11⟩ := F0.out; obtain ⟨x1_0, x1_1, x1_2, x1_3, x1_4, y1_0, y1_1, y1_2, y1_3, y1_4⟩ := F1.out; clear hb) | (go_at_call 74; refine (isWithin_any _ _ _ _).mono ?_; rintro r w' ⟨rfl, hw⟩; obtain rfl := hw.symm; clear hw) | (go_at_call 75; refine (isFloor_any h _ (by omega) (by omega) _).mono ?_; rintro r w2 ⟨rfl, hb⟩; have F0 : Hid (HAt w2 w.heap.size h) := F0.out.below hb F0.out.lt; have F1 : Hid (EvW w2 (w.heap.size + 1) e) := F1.out.below hb F1.out.lt; have FB : Hid (Below w.heap.size w w2) := FB.out.trans (hb.mono FB.out.size); obtain ⟨x0_0, x0_1, x0_2, x0_3, x0_4, x0_5, x0_6, x0_7, x0_8, x0_9, x0_10, x0_11⟩ := F0.out; obtain ⟨x1_0, x1_1, x1_2, x1_3, x1_4, y1_0, y1_1, y1_2, y1_3, y1_4⟩ := F1.out; clear hb) | (go_at_call 76; refine (wayFault_any h (by omega) (by omega) _ _ _).mono ?_; rintro r w3 ⟨rfl, hb⟩; have F0 : Hid (HAt w3 w.heap.size h) := F0.out.below hb F0.out.lt; have F1 : Hid (EvW w3 (w.heap.size + 1) e) := F1.out.below hb F1.out.lt; have FB : Hid (Below w.heap.size w w3) := FB.out.trans (hb.mono FB.out.size); obtain ⟨x0_0, x0_1, x0_2, x0_3, x0_4, x0_5, x0_6, x0_7, x0_8, x0_9, x0_10, x0_11⟩ := F0.out; obtain ⟨x1_0, x1_1, x1_2, x1_3, x1_4, y1_0, y1_1, y1_2, y1_3, y1_4⟩ := F1.out; clear hb))
      go_ret
      exact ⟨ret_int HV.out, FB.out⟩
    rw [if_pos i3] at hv
    cases i4 : inB e.fl 0 (h.fl - 1)
    · have HV : Hid ((3 : Int) = k) := by rw [i4, if_neg (by decide)] at hv; exact hv
      clear hv
      go_enter Tryz.func50, Tryz.ntmps50
      go_wp2_with (first | (go_at_call 17; refine (implFault_any h _).mono ?_; rintro r w1 ⟨rfl, hb⟩; have F0 : Hid (HAt w1 w.heap.size h) := F0.out.below hb F0.out.lt; have F1 : Hid (EvW w1 (w.heap.size + 1) e) := F1.out.below hb F1.out.lt; have FB : Hid (Below w.heap.size w w1) := FB.out.trans (hb.mono FB.out.size); obtain ⟨x0_0, x0_1, x0_2, x0_3, x0_4, x0_5, x0_6, x0_7, x0_8, x0_9, x0_10, x0_11⟩ := F0.out; obtain ⟨x1_0, x1_1, x1_2, x1_3, x1_4, y1_0, y1_1, y1_2, y1_3, y1_4⟩ := F1.out; clear hb) | (go_at_call 74; refine (isWithin_any _ _ _ _).mono ?_; rintro r w' ⟨rfl, hw⟩; obtain rfl := hw.symm; clear hw) | (go_at_call 75; refine (isFloor_any h _ (by omega) (by omega) _).mono ?_; rintro r w2 ⟨rfl, hb⟩; have F0 : Hid (HAt w2 w.heap.size h) := F0.out.below hb F0.out.lt; have F1 : Hid (EvW w2 (w.heap.size + 1) e) := F1.out.below hb F1.out.lt; have FB : Hid (Below w.heap.size w w2) := FB.out.trans (hb.mono FB.out.size); obtain ⟨x0_0, x0_1, x0_2, x0_3, x0_4, x0_5, x0_6, x0_7, x0_8, x0_9, x0_10, x0_11⟩ := F0.out; obtain ⟨x1_0, x1_1, x1_2, x1_3, x1_4, y1_0, y1_1, y1_2, y1_3, y1_4⟩ := F1.out; clear hb) | (go_at_call 76; refine (wayFault_any h (by omega) (by omega) _ _ _).mono ?_; rintro r w3 ⟨rfl, hb⟩; have F0 : Hid (HAt w3 w.heap.size h) := F0.out.below hb F0.out.lt; have F1 : Hid (EvW w3 (w.heap.size + 1) e) := F1.out.below hb F1.out.lt; have FB : Hid (Below w.heap.size w w3) := FB.out.trans (hb.mono FB.out.size); obtain ⟨x0_0, x0_1, x0_2, x0_3, x0_4, x0_5, x0_6, x0_7, x0_8, x0_9, x0_10, x0_11⟩ := F0.out; obtain ⟨x1_0, x1_1, x1_2, x1_3, x1_4, y1_0, y1_1, y1_2, y1_3, y1_4⟩ := F1.out; clear hb))
      go_ret
      exact ⟨ret_int HV.out, FB.out⟩
    rw [if_pos i4] at hv
    cases i5 : (e.kd == 1)
    · rw [i5, if_neg (by decide)] at hv
      cases i6 : (e.tw != 0)
      · cases i7 : (e.kd == 5)
        · have HV : Hid ((0 : Int) = k) := by rw [i6, i7, Bool.false_and, Bool.false_or, if_neg (by decide)] at hv; exact hv
          clear hv
          go_enter Tryz.func50, Tryz.ntmps50
          go_wp2_with (first | (go_at_call 17; refine (implFault_any h _).mono ?_; rintro r w1 ⟨rfl, hb⟩; have F0 : Hid (HAt w1 w.heap.size h) := F0.out.below hb F0.out.lt; have F1 : Hid (EvW w1 (w.heap.size + 1) e) := F1.out.below hb F1.out.lt; have FB : Hid (Below w.heap.size w w1) := FB.out.trans (hb.mono FB.out.size); obtain ⟨x0_0, x0_1, x0_2, x0_3, x0_4, x0_5, x0_6, x0_7, x0_8, x0_9, x0_10, x0_11⟩ := F0.out; obtain ⟨x1_0, x1_1, x1_2, x1_3, x1_4, y1_0, y1_1, y1_2, y1_3, y1_4⟩ := F1.out; clear hb) | (go_at_call 74; refine (isWithin_any _ _ _ _).mono ?_; rintro r w' ⟨rfl, hw⟩; obtain rfl := hw.symm; clear hw) | (go_at_call 75; refine (isFloor_any h _ (by omega) (by omega) _).mono ?_; rintro r w2 ⟨rfl, hb⟩; have F0 : Hid (HAt w2 w.heap.size h) := F0.out.below hb F0.out.lt; have F1 : Hid (EvW w2 (w.heap.size + 1) e) := F1.out.below hb F1.out.lt; have FB : Hid (Below w.heap.size w w2) := FB.out.trans (hb.mono FB.out.size); obtain ⟨x0_0, x0_1, x0_2, x0_3, x0_4, x0_5, x0_6, x0_7, x0_8, x0_9, x0_10, x0_11⟩ := F0.out; obtain ⟨x1_0, x1_1, x1_2, x1_3, x1_4, y1_0, y1_1, y1_2, y1_3, y1_4⟩ := F1.out; clear hb) | (go_at_call 76; refine (wayFault_any h (by omega) (by omega) _ _ _).mono ?_; rintro r w3 ⟨rfl, hb⟩; have F0 : Hid (HAt w3 w.heap.size h) := F0.out.below hb F0.out.lt; have F1 : Hid (EvW w3 (w.heap.size + 1) e) := F1.out.below hb F1.out.lt; have FB : Hid (Below w.heap.size w w3) := FB.out.trans (hb.mono FB.out.size); obtain ⟨x0_0, x0_1, x0_2, x0_3, x0_4, x0_5, x0_6, x0_7, x0_8, x0_9, x0_10, x0_11⟩ := F0.out; obtain ⟨x1_0, x1_1, x1_2, x1_3, x1_4, y1_0, y1_1, y1_2, y1_3, y1_4⟩ := F1.out; clear hb))
          go_ret
          exact ⟨ret_int HV.out, FB.out⟩
        · cases i8 : (e.fl != 0)
          · have HV : Hid ((0 : Int) = k) := by rw [i6, i7, i8, if_neg (by decide)] at hv; exact hv
            clear hv
            go_enter Tryz.func50, Tryz.ntmps50
            go_wp2_with (first | (go_at_call 17; refine (implFault_any h _).mono ?_; rintro r w1 ⟨rfl, hb⟩; have F0 : Hid (HAt w1 w.heap.size h) := F0.out.below hb F0.out.lt; have F1 : Hid (EvW w1 (w.heap.size + 1) e) := F1.out.below hb F1.out.lt; have FB : Hid (Below w.heap.size w w1) := FB.out.trans (hb.mono FB.out.size); obtain ⟨x0_0, x0_1, x0_2, x0_3, x0_4, x0_5, x0_6, x0_7, x0_8, x0_9, x0_10, x0_11⟩ := F0.out; obtain ⟨x1_0, x1_1, x1_2, x1_3, x1_4, y1_0, y1_1, y1_2, y1_3, y1_4⟩ := F1.out; clear hb) | (go_at_call 74; refine (isWithin_any _ _ _ _).mono ?_; rintro r w' ⟨rfl, hw⟩; obtain rfl := hw.symm; clear hw) | (go_at_call 75; refine (isFloor_any h _ (by omega) (by omega) _).mono ?_; rintro r w2 ⟨rfl, hb⟩; have F0 : Hid (HAt w2 w.heap.size h) := F0.out.below hb F0.out.lt; have F1 : Hid (EvW w2 (w.heap.size + 1) e) := F1.out.below hb F1.out.lt; have FB : Hid (Below w.heap.size w w2) := FB.out.trans (hb.mono FB.out.size); obtain ⟨x0_0, x0_1, x0_2, x0_3, x0_4, x0_5, x0_6, x0_7, x0_8, x0_9, x0_10, x0_11⟩ := F0.out; obtain ⟨x1_0, x1_1, x1_2, x1_3, x1_4, y1_0, y1_1, y1_2, y1_3, y1_4⟩ := F1.out; clear hb) | (go_at_call 76; refine (wayFault_any h (by omega) (by omega) _ _ _).mono ?_; rintro r w3 ⟨rfl, hb⟩; have F0 : Hid (HAt w3 w.heap.size h) := F0.out.below hb F0.out.lt; have F1 : Hid (EvW w3 (w.heap.size + 1) e) := F1.out.below hb F1.out.lt; have FB : Hid (Below w.heap.size w w3) := FB.out.trans (hb.mono FB.out.size); obtain ⟨x0_0, x0_1, x0_2, x0_3, x0_4, x0_5, x0_6, x0_7, x0_8, x0_9, x0_10, x0_11⟩ := F0.out; obtain ⟨x1_0, x1_1, x1_2, x1_3, x1_4, y1_0, y1_1, y1_2, y1_3, y1_4⟩ := F1.out; clear hb))
            go_ret
            exact ⟨ret_int HV.out, FB.out⟩
          · have HV : Hid ((1 : Int) = k) := by rw [i6, i7, i8, if_pos (by decide)] at hv; exact hv
            clear hv
            go_enter Tryz.func50, Tryz.ntmps50
            go_wp2_with (first | (go_at_call 17; refine (implFault_any h _).mono ?_; rintro r w1 ⟨rfl, hb⟩; have F0 : Hid (HAt w1 w.heap.size h) := F0.out.below hb F0.out.lt; have F1 : Hid (EvW w1 (w.heap.size + 1) e) := F1.out.below hb F1.out.lt; have FB : Hid (Below w.heap.size w w1) := FB.out.trans (hb.mono FB.out.size); obtain ⟨x0_0, x0_1, x0_2, x0_3, x0_4, x0_5, x0_6, x0_7, x0_8, x0_9, x0_10, x0_11⟩ := F0.out; obtain ⟨x1_0, x1_1, x1_2, x1_3, x1_4, y1_0, y1_1, y1_2, y1_3, y1_4⟩ := F1.out; clear hb) | (go_at_call 74; refine (isWithin_any _ _ _ _).mono ?_; rintro r w' ⟨rfl, hw⟩; obtain rfl := hw.symm; clear hw) | (go_at_call 75; refine (isFloor_any h _ (by omega) (by omega) _).mono ?_; rintro r w2 ⟨rfl, hb⟩; have F0 : Hid (HAt w2 w.heap.size h) := F0.out.below hb F0.out.lt; have F1 : Hid (EvW w2 (w.heap.size + 1) e) := F1.out.below hb F1.out.lt; have FB : Hid (Below w.heap.size w w2) := FB.out.trans (hb.mono FB.out.size); obtain ⟨x0_0, x0_1, x0_2, x0_3, x0_4, x0_5, x0_6, x0_7, x0_8, x0_9, x0_10, x0_11⟩ := F0.out; obtain ⟨x1_0, x1_1, x1_2, x1_3, x1_4, y1_0, y1_1, y1_2, y1_3, y1_4⟩ := F1.out; clear hb) | (go_at_call 76; refine (wayFault_any h (by omega) (by omega) _ _ _).mono ?_; rintro r w3 ⟨rfl, hb⟩; have F0 : Hid (HAt w3 w.heap.size h) := F0.out.below hb F0.out.lt; have F1 : Hid (EvW w3 (w.heap.size + 1) e) := F1.out.below hb F1.out.lt; have FB : Hid (Below w.heap.size w w3) := FB.out.trans (hb.mono FB.out.size); obtain ⟨x0_0, x0_1, x0_2, x0_3, x0_4, x0_5, x0_6, x0_7, x0_8, x0_9, x0_10, x0_11⟩ := F0.out; obtain ⟨x1_0, x1_1, x1_2, x1_3, x1_4, y1_0, y1_1, y1_2, y1_3, y1_4⟩ := F1.out; clear hb))
            go_ret
            exact ⟨ret_int HV.out, FB.out⟩
      · have HV : Hid ((1 : Int) = k) := by rw [i6, Bool.true_or, if_pos (by decide)] at hv; exact hv
        clear hv
        go_enter Tryz.func50, Tryz.ntmps50
        go_wp2_with (first | (go_at_call 17; refine (implFault_any h _).mono ?_; rintro r w1 ⟨rfl, hb⟩; have F0 : Hid (HAt w1 w.heap.size h) := F0.out.below hb F0.out.lt; have F1 : Hid (EvW w1 (w.heap.size + 1) e) := F1.out.below hb F1.out.lt; have FB : Hid (Below w.heap.size w w1) := FB.out.trans (hb.mono FB.out.size); obtain ⟨x0_0, x0_1, x0_2, x0_3, x0_4, x0_5, x0_6, x0_7, x0_8, x0_9, x0_10, x0_11⟩ := F0.out; obtain ⟨x1_0, x1_1, x1_2, x1_3, x1_4, y1_0, y1_1, y1_2, y1_3, y1_4⟩ := F1.out; clear hb) | (go_at_call 74; refine (isWithin_any _ _ _ _).mono ?_; rintro r w' ⟨rfl, hw⟩; obtain rfl := hw.symm; clear hw) | (go_at_call 75; refine (isFloor_any h _ (by omega) (by omega) _).mono ?_; rintro r w2 ⟨rfl, hb⟩; have F0 : Hid (HAt w2 w.heap.size h) := F0.out.below hb F0.out.lt; have F1 : Hid (EvW w2 (w.heap.size + 1) e) := F1.out.below hb F1.out.lt; have FB : Hid (Below w.heap.size w w2) := FB.out.trans (hb.mono FB.out.size); obtain ⟨x0_0, x0_1, x0_2, x0_3, x0_4, x0_5, x0_6, x0_7, x0_8, x0_9, x0_10, x0_11⟩ := F0.out; obtain ⟨x1_0, x1_1, x1_2, x1_3, x1_4, y1_0, y1_1, y1_2, y1_3, y1_4⟩ := F1.out; clear hb) | (go_at_call 76; refine (wayFault_any h (by omega) (by omega) _ _ _).mono ?_; rintro r w3 ⟨rfl, hb⟩; have F0 : Hid (HAt w3 w.heap.size h) := F0.out.below hb F0.out.lt; have F1 : Hid (EvW w3 (w.heap.size + 1) e) := F1.out.below hb F1.out.lt; have FB : Hid (Below w.heap.size w w3) := FB.out.trans (hb.mono FB.out.size); obtain ⟨x0_0, x0_1, x0_2, x0_3, x0_4, x0_5, x0_6, x0_7, x0_8, x0_9, x0_10, x0_11⟩ := F0.out; obtain ⟨x1_0, x1_1, x1_2, x1_3, x1_4, y1_0, y1_1, y1_2, y1_3, y1_4⟩ := F1.out; clear hb))
        go_ret
        exact ⟨ret_int HV.out, FB.out⟩
    · have HV : Hid (Hs.callC h e.fl e.tw = k) := by rw [i5, if_pos (by decide)] at hv; exact hv
      clear hv
      go_enter Tryz.func50, Tryz.ntmps50
      go_wp2_with (first | (go_at_call 17; refine (implFault_any h _).mono ?_; rintro r w1 ⟨rfl, hb⟩; have F0 : Hid (HAt w1 w.heap.size h) := F0.out.below hb F0.out.lt; have F1 : Hid (EvW w1 (w.heap.size + 1) e) := F1.out.below hb F1.out.lt; have FB : Hid (Below w.heap.size w w1) := FB.out.trans (hb.mono FB.out.size); obtain ⟨x0_0, x0_1, x0_2, x0_3, x0_4, x0_5, x0_6, x0_7, x0_8, x0_9, x0_10, x0_11⟩ := F0.out; obtain ⟨x1_0, x1_1, x1_2, x1_3, x1_4, y1_0, y1_1, y1_2, y1_3, y1_4⟩ := F1.out; clear hb) | (go_at_call 74; refine (isWithin_any _ _ _ _).mono ?_; rintro r w' ⟨rfl, hw⟩; obtain rfl := hw.symm; clear hw) | (go_at_call 75; refine (isFloor_any h _ (by omega) (by omega) _).mono ?_; rintro r w2 ⟨rfl, hb⟩; have F0 : Hid (HAt w2 w.heap.size h) := F0.out.below hb F0.out.lt; have F1 : Hid (EvW w2 (w.heap.size + 1) e) := F1.out.below hb F1.out.lt; have FB : Hid (Below w.heap.size w w2) := FB.out.trans (hb.mono FB.out.size); obtain ⟨x0_0, x0_1, x0_2, x0_3, x0_4, x0_5, x0_6, x0_7, x0_8, x0_9, x0_10, x0_11⟩ := F0.out; obtain ⟨x1_0, x1_1, x1_2, x1_3, x1_4, y1_0, y1_1, y1_2, y1_3, y1_4⟩ := F1.out; clear hb) | (go_at_call 76; refine (wayFault_any h (by omega) (by omega) _ _ _).mono ?_; rintro r w3 ⟨rfl, hb⟩; have F0 : Hid (HAt w3 w.heap.size h) := F0.out.below hb F0.out.lt; have F1 : Hid (EvW w3 (w.heap.size + 1) e) := F1.out.below hb F1.out.lt; have FB : Hid (Below w.heap.size w w3) := FB.out.trans (hb.mono FB.out.size); obtain ⟨x0_0, x0_1, x0_2, x0_3, x0_4, x0_5, x0_6, x0_7, x0_8, x0_9, x0_10, x0_11⟩ := F0.out; obtain ⟨x1_0, x1_1, x1_2, x1_3, x1_4, y1_0, y1_1, y1_2, y1_3, y1_4⟩ := F1.out; clear hb))
      go_ret
      exact ⟨ret_int HV.out, FB.out⟩
  · have HV : Hid (h.fault = k) := by unfold Hs.ev at hk; rw [if_neg hf] at hk; exact hk
    have hn : (h.fault != 0) = true := by simpa using hf
    clear hf hk
    go_enter Tryz.func50, Tryz.ntmps50
    go_wp2_with (go_at_call 17; refine (implFault_any h _).mono ?_; rintro r w1 ⟨rfl, hb⟩; have F0 : Hid (HAt w1 w.heap.size h) := F0.out.below hb F0.out.lt; have F1 : Hid (EvW w1 (w.heap.size + 1) e) := F1.out.below hb F1.out.lt; have FB : Hid (Below w.heap.size w w1) := FB.out.trans (hb.mono FB.out.size); obtain ⟨x0_0, x0_1, x0_2, x0_3, x0_4, x0_5, x0_6, x0_7, x0_8, x0_9, x0_10, x0_11⟩ := F0.out; obtain ⟨x1_0, x1_1, x1_2, x1_3, x1_4, y1_0, y1_1, y1_2, y1_3, y1_4⟩ := F1.out; clear hb)
    go_ret
    exact ⟨ret_int HV.out, FB.out⟩
end Go.Proofs.YtoacnglcneliiaaGreatDoor
