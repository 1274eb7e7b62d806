/-
  StopPath, StopTicks and StopBound, the program's and the model's.
-/
import Derived.Test.YtehdgifinanbbaaQuot
import Derived.Test.YtehdgifinanbbaaStopP
namespace Go.Proofs.Ytehdgifinanbbaa
open Go.RowKit Pl

theorem pathToStop_any (s b : Int) (h0 : 0 ≤ s) (h1 : s ≤ 2000) (hb : 1 ≤ b) (hb2 : b ≤ 2000) (w : World) :
    Calls Try.prog 131 #[.int .i64 s, .int .i64 b] w fun e w' => e = .returned (.int .i64 (stopP s b)) ∧ w' = w := by
  have hz : (b == 0) = false := by simp; omega
  obtain ⟨n, hn⟩ : ∃ n, s / b = n := ⟨_, rfl⟩
  obtain ⟨b1, b2, b3, b4, b5, b6, b7⟩ := stop_bds s b n h0 h1 hb hn
  have HE : Hid (stopP s b = n * s - b * (n * (n + 1) / 2)) := by unfold stopP; rw [hn]; exact rfl
  go_enter Try.func131, Try.ntmps131
  go_wp2
  go_ret
  exact ⟨ret_int HE.out.symm, rfl⟩
theorem l1Stop_any (s b : Int) (h0 : 0 ≤ s) (h1 : s ≤ 2000) (hb : 1 ≤ b) (hb2 : b ≤ 2000) (w : World) :
    Calls Try.prog 99 #[.int .i64 s, .int .i64 b] w fun e w' => e = .returned (.int .i64 (stopP s b)) ∧ w' = w := by
  have hz : (b == 0) = false := by simp; omega
  obtain ⟨n, hn⟩ : ∃ n, s / b = n := ⟨_, rfl⟩
  obtain ⟨b1, b2, b3, b4, b5, b6, b7⟩ := stop_bds s b n h0 h1 hb hn
  have HE : Hid (stopP s b = n * s - b * n * (n + 1) / 2) := by unfold stopP; rw [hn, specHalf]; exact rfl
  go_enter Try.func99, Try.ntmps99
  go_wp2
  go_ret
  exact ⟨ret_int HE.out.symm, rfl⟩

/-- May whoever goes at this speed stop with this brake? -/
def stopB (s b : Int) : Bool := inB s 0 2000 && inB b 1 2000
theorem stopB_yes {s b : Int} (h0 : 0 ≤ s) (h1 : s ≤ 2000) (hb : 1 ≤ b) (hb2 : b ≤ 2000) : stopB s b = true := by unfold stopB; rw [inB_yes h0 h1, inB_yes hb hb2]; exact rfl
theorem stopB_no {s b : Int} (h : ¬ (0 ≤ s ∧ s ≤ 2000 ∧ 1 ≤ b ∧ b ≤ 2000)) : stopB s b = false := by
  unfold stopB
  by_cases h1 : 0 ≤ s ∧ s ≤ 2000
  · rw [inB_yes h1.1 h1.2, inB_no (by omega)]; exact rfl
  · rw [inB_no (by omega)]; exact rfl
end Go.Proofs.Ytehdgifinanbbaa
