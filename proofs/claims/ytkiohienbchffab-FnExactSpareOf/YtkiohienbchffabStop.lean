/-
  StopPath, StopTicks and StopBound, the program's and the model's.
-/
import Derived.Test.YtkiohienbchffabQuot
import Derived.Test.YtkiohienbchffabStopP
namespace Go.Proofs.Ytkiohienbchffab
open Go.RowKit Pl

theorem pathToStop_any (s b : Int) (h0 : 0 ≤ s) (h1 : s ≤ 2000) (hb : 1 ≤ b) (hb2 : b ≤ 2000) (w : World) :
    Calls Try.prog 41 #[.int .i64 s, .int .i64 b] w fun e w' => e = .returned (.int .i64 (stopP s b)) ∧ w' = w := by
  have hz : (b == 0) = false := by simp; omega
  obtain ⟨n, hn⟩ : ∃ n, s / b = n := ⟨_, rfl⟩
  obtain ⟨b1, b2, b3, b4, b5, b6, b7⟩ := stop_bds s b n h0 h1 hb hn
  have HE : Hid (stopP s b = n * s - b * (n * (n + 1) / 2)) := by unfold stopP; rw [hn]; exact rfl
  go_enter Try.func41, Try.ntmps41
  go_wp2
  go_ret
  exact ⟨ret_int HE.out.symm, rfl⟩
theorem l1Stop_any (s b : Int) (h0 : 0 ≤ s) (h1 : s ≤ 2000) (hb : 1 ≤ b) (hb2 : b ≤ 2000) (w : World) :
    Calls Try.prog 28 #[.int .i64 s, .int .i64 b] w fun e w' => e = .returned (.int .i64 (stopP s b)) ∧ w' = w := by
  have hz : (b == 0) = false := by simp; omega
  obtain ⟨n, hn⟩ : ∃ n, s / b = n := ⟨_, rfl⟩
  obtain ⟨b1, b2, b3, b4, b5, b6, b7⟩ := stop_bds s b n h0 h1 hb hn
  have HE : Hid (stopP s b = n * s - b * n * (n + 1) / 2) := by unfold stopP; rw [hn, specHalf]; exact rfl
  go_enter Try.func28, Try.ntmps28
  go_wp2
  go_ret
  exact ⟨ret_int HE.out.symm, rfl⟩

/-- May whoever goes at this speed stop with this brake? -/
def stopB (s b : Int) : Bool := inB s 0 2000 && inB b 1 2000
theorem stopB_yes {s b : Int} (h0 : 0 ≤ s) (h1 : s ≤ 2000) (hb : 1 ≤ b) (hb2 : b ≤ 2000) : stopB s b = true := by unfold stopB; rw [inB_yes h0 h1, inB_yes hb hb2]; exact rfl
theorem stopB_no {s b : Int} (h : ¬ (0 ≤ s ∧ s ≤ 2000 ∧ 1 ≤ b ∧ b ≤ 2000)) : stopB s b = false := by
  unfold stopB
  by_cases h1 : 0 ≤ s ∧ s ≤ 2000
  · rw [inB_yes h1.1 h1.2, inB_no (by omega)]; exact rfl
  · rw [inB_no (by omega)]; exact rfl
theorem canStop_any (s b : Int) (w : World) :
    Calls Try.prog 39 #[.int .i64 s, .int .i64 b] w fun e w' => e = .returned (.bool (stopB s b)) ∧ w' = w := by
  cases h1 : inB s 0 2000 with
  | true =>
    have hs : Hid (stopB s b = inB b 1 2000) := by unfold stopB; rw [h1]; exact rfl
    go_enter Try.func39, Try.ntmps39
    go_wp2_with (go_at_call 49; refine (isWithin_any _ _ _ _).mono ?_; rintro e w' ⟨rfl, rfl⟩)
    go_ret
    exact ⟨by rw [hs.out]; exact rfl, rfl⟩
  | false =>
    have hs : Hid (stopB s b = false) := by unfold stopB; rw [h1]; exact rfl
    go_enter Try.func39, Try.ntmps39
    go_wp2_with (go_at_call 49; refine (isWithin_any _ _ _ _).mono ?_; rintro e w' ⟨rfl, rfl⟩)
    go_ret
    exact ⟨by rw [hs.out]; exact rfl, rfl⟩
theorem implStopTicks_in (s b : Int) (h0 : 0 ≤ s) (h1 : s ≤ 2000) (hb : 1 ≤ b) (hb2 : b ≤ 2000) (w : World) :
    Calls Try.prog 27 #[.int .i64 s, .int .i64 b] w (isRes w 0 ((s + b - 1) / b)) := by
  have i1 : stopB s b = true := stopB_yes h0 h1 hb hb2
  go_enter Try.func27, Try.ntmps27
  go_wp2_with (first | (go_at_call 39; refine (canStop_any _ _ _).mono ?_; rintro e w' ⟨rfl, rfl⟩) | (go_at_call 40; refine (quotientUp_any _ _ h0 (by omega) hb (by omega) _).mono ?_; rintro e w' ⟨rfl, rfl⟩))
  exact bodyPost_ret (v := .agg #[.int .i64 0, .int .i64 ((s + b - 1) / b)]) (by simp [results, Try.results27, go_sem]) rfl ⟨rfl, rfl⟩
theorem implStopTicks_out (s b : Int) (h : ¬ (0 ≤ s ∧ s ≤ 2000 ∧ 1 ≤ b ∧ b ≤ 2000)) (w : World) :
    Calls Try.prog 27 #[.int .i64 s, .int .i64 b] w (isRes w 3 0) := by
  have i1 : stopB s b = false := stopB_no h
  clear h
  go_enter Try.func27, Try.ntmps27
  go_wp2_with (go_at_call 39; refine (canStop_any _ _ _).mono ?_; rintro e w' ⟨rfl, rfl⟩)
  exact bodyPost_ret (v := .agg #[.int .i64 3, .int .i64 0]) (by simp [results, Try.results27, go_sem]) rfl ⟨rfl, rfl⟩
end Go.Proofs.Ytkiohienbchffab
