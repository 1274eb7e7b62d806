/-
  The model's ledger: what is asked of a call and of a person.
-/
import Derived.Test.YtoacnglcneliiaaGreatDoorFnd
import Derived.Test.YtoacnglcneliiaaGreatDoorHouseF
import Derived.Deep.RegionHeld3
import Derived.BigGuardPart
namespace Go.Proofs.YtoacnglcneliiaaGreatDoor
open Go.RowKit Pl
set_option linter.unusedSimpArgs false
set_option linter.unusedVariables false

set_option maxRecDepth 20000 in
set_option maxHeartbeats 8000000 in
theorem specCallFault_any (h : Hs) (f t : Int) (w : World) :
    Calls Tryz.prog 59 #[.agg #[.int .i64 h.fl, .int .i64 h.gp, .int .i64 h.ln, .int .i64 h.rf, .int .i64 h.sp, .int .i64 h.pu, .int .i64 h.br, .int .i64 h.dr, .int .i64 h.lv, .int .i64 h.dO, .int .i64 h.ld, .int .i64 h.qu], .int .i64 f, .int .i64 t] w fun e w' => e = .returned (.int .i64 (Hs.call h f t)) ∧ Below w.heap.size w w' := by
  unfold Hs.call
  have F0 : Hid (HAt (w.alloc (.cells #[.int .i64 h.fl, .int .i64 h.gp, .int .i64 h.ln, .int .i64 h.rf, .int .i64 h.sp, .int .i64 h.pu, .int .i64 h.br, .int .i64 h.dr, .int .i64 h.lv, .int .i64 h.dO, .int .i64 h.ld, .int .i64 h.qu] 25)) w.heap.size h) := HAt.at_ w h _ _ (by simp)
  have FB : Hid (Below w.heap.size w (w.alloc (.cells #[.int .i64 h.fl, .int .i64 h.gp, .int .i64 h.ln, .int .i64 h.rf, .int .i64 h.sp, .int .i64 h.pu, .int .i64 h.br, .int .i64 h.dr, .int .i64 h.lv, .int .i64 h.dO, .int .i64 h.ld, .int .i64 h.qu] 25))) := ((Below.refl _ _).alloc (Nat.le_refl _) _)
  by_cases hf : h.fault = 0
  · rw [if_pos hf]
    have o := Hs.ok_of (Hs.fault_zero hf).1
    have f1 := o.fl1; have f2 := o.fl2
    have en : IntKind.i64.wrap (h.fl - 1) = h.fl - 1 := IntWalk.i64_in _ (by omega)
    clear o
    unfold Hs.callC
    cases i1 : inB f 0 (h.fl - 1)
    · rw [if_neg (by simp)]
      go_enter Tryz.func59, Tryz.ntmps59
      go_wp2_with (first | (go_at_call 29; refine (specFault_any h _).mono ?_; rw [hf]; rintro e w1 ⟨rfl, hb⟩; have F0 : Hid (HAt w1 w.heap.size h) := F0.out.below hb F0.out.lt; have FB : Hid (Below w.heap.size w w1) := FB.out.trans (hb.mono FB.out.size); obtain ⟨x0_0, x0_1, x0_2, x0_3, x0_4, x0_5, x0_6, x0_7, x0_8, x0_9, x0_10, x0_11⟩ := F0.out; clear hb) | (go_at_call 58; refine (l1In_any _ _ _ _).mono ?_; rintro e w' ⟨rfl, hw⟩; obtain rfl := hw.symm; clear hw))
      go_ret
      exact ⟨rfl, FB.out⟩
    · cases i2 : inB t 0 (h.fl - 1)
      · rw [if_neg (by simp)]
        go_enter Tryz.func59, Tryz.ntmps59
        go_wp2_with (first | (go_at_call 29; refine (specFault_any h _).mono ?_; rw [hf]; rintro e w1 ⟨rfl, hb⟩; have F0 : Hid (HAt w1 w.heap.size h) := F0.out.below hb F0.out.lt; have FB : Hid (Below w.heap.size w w1) := FB.out.trans (hb.mono FB.out.size); obtain ⟨x0_0, x0_1, x0_2, x0_3, x0_4, x0_5, x0_6, x0_7, x0_8, x0_9, x0_10, x0_11⟩ := F0.out; clear hb) | (go_at_call 58; refine (l1In_any _ _ _ _).mono ?_; rintro e w' ⟨rfl, hw⟩; obtain rfl := hw.symm; clear hw))
        go_ret
        exact ⟨rfl, FB.out⟩
      · rw [if_pos ⟨rfl, rfl⟩]
        by_cases q : f = t
        · rw [if_pos q]
          have b : (f == t) = true := by simpa using q
          clear q
          go_enter Tryz.func59, Tryz.ntmps59
          go_wp2_with (first | (go_at_call 29; refine (specFault_any h _).mono ?_; rw [hf]; rintro e w1 ⟨rfl, hb⟩; have F0 : Hid (HAt w1 w.heap.size h) := F0.out.below hb F0.out.lt; have FB : Hid (Below w.heap.size w w1) := FB.out.trans (hb.mono FB.out.size); obtain ⟨x0_0, x0_1, x0_2, x0_3, x0_4, x0_5, x0_6, x0_7, x0_8, x0_9, x0_10, x0_11⟩ := F0.out; clear hb) | (go_at_call 58; refine (l1In_any _ _ _ _).mono ?_; rintro e w' ⟨rfl, hw⟩; obtain rfl := hw.symm; clear hw))
          go_ret
          exact ⟨rfl, FB.out⟩
        · rw [if_neg q]
          have b : (f == t) = false := by simpa using q
          clear q
          go_enter Tryz.func59, Tryz.ntmps59
          go_wp2_with (first | (go_at_call 29; refine (specFault_any h _).mono ?_; rw [hf]; rintro e w1 ⟨rfl, hb⟩; have F0 : Hid (HAt w1 w.heap.size h) := F0.out.below hb F0.out.lt; have FB : Hid (Below w.heap.size w w1) := FB.out.trans (hb.mono FB.out.size); obtain ⟨x0_0, x0_1, x0_2, x0_3, x0_4, x0_5, x0_6, x0_7, x0_8, x0_9, x0_10, x0_11⟩ := F0.out; clear hb) | (go_at_call 58; refine (l1In_any _ _ _ _).mono ?_; rintro e w' ⟨rfl, hw⟩; obtain rfl := hw.symm; clear hw))
          go_ret
          exact ⟨rfl, FB.out⟩
  · rw [if_neg hf]
    have hn : (h.fault != 0) = true := by simpa using hf
    clear hf
    go_enter Tryz.func59, Tryz.ntmps59
    go_wp2_with (go_at_call 29; refine (specFault_any h _).mono ?_; rintro e w1 ⟨rfl, hb⟩; have F0 : Hid (HAt w1 w.heap.size h) := F0.out.below hb F0.out.lt; have FB : Hid (Below w.heap.size w w1) := FB.out.trans (hb.mono FB.out.size); obtain ⟨x0_0, x0_1, x0_2, x0_3, x0_4, x0_5, x0_6, x0_7, x0_8, x0_9, x0_10, x0_11⟩ := F0.out; clear hb)
    go_ret
    exact ⟨rfl, FB.out⟩
end Go.Proofs.YtoacnglcneliiaaGreatDoor
