/-
  What the greatest speed says, in plain numbers.
-/
import Derived.Test.YtdpapffocfogkaaSpeed
import Derived.Test.YtdpapffocfogkaaDraw2
import Derived.Test.YtdpapffocfogkaaAt
import Derived.Deep.RegionHeld3
namespace Go.Proofs.Ytdpapffocfogkaa
open Go.RowKit Pl

theorem field0 (c v : Int) (w : World) : (Instr.field 30 (.agg #[.int .i64 c, .int .i64 v]) 0).run Try.prog w = .ok (.int .i64 c) w := by kernel_rfl
theorem field1 (c v : Int) (w : World) : (Instr.field 30 (.agg #[.int .i64 c, .int .i64 v]) 1).run Try.prog w = .ok (.int .i64 v) w := by kernel_rfl

theorem stop_zero (b : Int) : stopP 0 b = 0 := by unfold stopP; simp
theorem speed_best (p b r : Int) (h1 : 0 ≤ p) (h : Best (spB p b) 2000 r) : 0 ≤ r ∧ r ≤ 2000 ∧ r + stopP r b ≤ p ∧ (r = 2000 ∨ p < r + 1 + stopP (r + 1) b) := by
  obtain ⟨g1, g2, g3, g4⟩ := h
  refine ⟨g1, g2, ?_, ?_⟩
  · rcases g3 with rfl | g3
    · rw [stop_zero]; omega
    · exact of_decide_eq_true g3
  · by_cases h : r = 2000
    · exact Or.inl h
    · have := g4 (r + 1) (by omega) (by omega)
      have := of_decide_eq_false this
      exact Or.inr (by omega)
end Go.Proofs.Ytdpapffocfogkaa
