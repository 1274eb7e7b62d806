/-
  Roots and quotients that are rounded up, in the forms that the law asks for.
-/
import Derived.Test.YtdpapffocfogkaaRoot
import Derived.Test.YtdpapffocfogkaaRound
import Derived.Test.YtdpapffocfogkaaMul
import Derived.Test.YtdpapffocfogkaaDraw3
import Derived.Test.YtdpapffocfogkaaAt
import Derived.Deep.RegionHeld3
namespace Go.Proofs.Ytdpapffocfogkaa
open Go.RowKit Pl

theorem field0 (c v : Int) (w : World) : (Instr.field 30 (.agg #[.int .i64 c, .int .i64 v]) 0).run Try.prog w = .ok (.int .i64 c) w := by kernel_rfl

theorem implRootDown_ex (n : Int) (h1 : 0 ≤ n) (h2 : n ≤ 1000000000000000) (w : World) :
    Calls Try.prog 14 #[.int .i64 n] w fun e w' => ∃ r, Best (sqB n) 33554432 r ∧ e = .returned (.agg #[.int .i64 0, .int .i64 r]) ∧ w' = (w.alloc (.cells #[.int .i64 n] 2)).alloc (.cells #[.int .i64 0, .int .i64 r] 30) := by
  have i1 : inB n 0 1000000000000000 = true := inB_yes h1 h2
  go_enter Try.func14, Try.ntmps14
  go_wp2_with (first | (go_at_call 38; refine (isWithin_any _ _ _ _).mono ?_; rintro e w' ⟨rfl, rfl⟩) | (go_at_call 39; refine (greatestFit_root n _ _ (by simp)).mono ?_; rintro e w' ⟨r, rfl, hb, rfl⟩))
  exact bodyPost_ret (v := .agg #[.int .i64 0, .int .i64 r]) (by simp [results, Try.results14, go_sem]) rfl ⟨r, hb, rfl, rfl⟩

/-- A root's square is not above the number, and the next one's is. -/
theorem root_best (n r : Int) (h1 : 0 ≤ n) (h2 : n ≤ 1000000000000000) (h : Best (sqB n) 33554432 r) : 0 ≤ r ∧ r ≤ 33554431 ∧ 0 ≤ r * r ∧ r * r ≤ n ∧ n < (r + 1) * (r + 1) ∧ (r + 1) * (r + 1) ≤ 1125899906842624 := by
  obtain ⟨g1, g2, g3, g4⟩ := h
  have hr : r * r ≤ n := by
    rcases g3 with rfl | g3
    · omega
    · exact of_decide_eq_true g3
  have hlt : r ≤ 33554431 := by
    by_cases h : r ≤ 33554431
    · exact h
    · have : r = 33554432 := by omega
      subst this; omega
  have hn := of_decide_eq_false (g4 (r + 1) (by omega) (by omega))
  have hq := sq_bd (r + 1) (by omega) (by omega)
  exact ⟨g1, hlt, Int.mul_nonneg g1 g1, hr, by omega, hq.2⟩

/-- What is rounded up is the least that is not below. -/
theorem up_best (a b : Int) (h1 : 0 ≤ a) (h2 : a ≤ 1000000000000000) (h3 : 1 ≤ b) (h4 : b ≤ 1000000000000000) :
    0 ≤ (a + b - 1) / b ∧ (a + b - 1) / b ≤ 1000000000000000 ∧ a ≤ (a + b - 1) / b * b ∧ ((a + b - 1) / b - 1) * b < a ∧ -1000000000000000 ≤ ((a + b - 1) / b - 1) * b := by
  have e := Int.mul_ediv_add_emod (a + b - 1) b
  have m1 := Int.emod_nonneg (a + b - 1) (b := b) (by omega)
  have m2 := Int.emod_lt_of_pos (a + b - 1) (b := b) (by omega)
  have q1 : 0 ≤ (a + b - 1) / b := Int.ediv_nonneg (by omega) (by omega)
  obtain ⟨u, hu⟩ : ∃ u, (a + b - 1) / b = u := ⟨_, rfl⟩
  rw [hu] at e q1 ⊢
  have c : u * b = b * u := Int.mul_comm u b
  have s : (u - 1) * b = b * u - b := by rw [Int.sub_mul, c]; omega
  have hu2 : u ≤ 1000000000000000 := by
    by_cases h : u ≤ a
    · omega
    · have : 1 * (u - 1) ≤ b * (u - 1) := Int.mul_le_mul_of_nonneg_right h3 (by omega)
      rw [Int.mul_comm b (u - 1)] at this
      omega
  have p0 : 0 ≤ b * u := Int.mul_nonneg (by omega) q1
  refine ⟨q1, hu2, by omega, by omega, by omega⟩
theorem clip_ge {a v : Int} (h2 : a ≤ 1000000000000000) (h : a ≤ v) : a ≤ clip 1000000000000000 v := by unfold clip; (repeat' split) <;> omega
theorem roundUp_ex (a b : Int) (h1 : 0 ≤ a) (h2 : a ≤ 1000000000000000) (h3 : 1 ≤ b) (h4 : b ≤ 1000000000000000) (w : World) :
    Calls Try.prog 17 #[.int .i64 a, .int .i64 b] w fun e w' => ∃ u : Int, (0 ≤ u ∧ u ≤ 1000000000000000 ∧ a ≤ clip 1000000000000000 (u * b) ∧ (u - 1) * b < a ∧ -1000000000000000 ≤ (u - 1) * b) ∧ isRes w 0 u e w' := by
  obtain ⟨u1, u2, u3, u4, u5⟩ := up_best a b h1 h2 h3 h4
  exact (implRoundUp_in a b h1 h2 h3 h4 w).mono fun e w' he => ⟨_, ⟨u1, u2, clip_ge h2 u3, u4, u5⟩, he⟩
end Go.Proofs.Ytdpapffocfogkaa
