/-
  Sums and products within the top, in the forms that the law asks for.
-/
import Derived.Test.YtdpapffocfogkaaAdd
import Derived.Test.YtdpapffocfogkaaMul
import Derived.Test.YtdpapffocfogkaaDraw
import Derived.Test.YtdpapffocfogkaaAt
namespace Go.Proofs.Ytdpapffocfogkaa
open Go.RowKit Pl

theorem clip_bd (v : Int) : -1000000000000000 ≤ clip 1000000000000000 v ∧ clip 1000000000000000 v ≤ 1000000000000000 := by unfold clip; (repeat' split) <;> omega
theorem clip_in {v : Int} (h1 : -1000000000000000 ≤ v) (h2 : v ≤ 1000000000000000) : clip 1000000000000000 v = v := by unfold clip; (repeat' split) <;> omega
theorem implAddTop_small (a b : Int) (a1 : -4500 ≤ a) (a2 : a ≤ 4500) (b1 : -4500 ≤ b) (b2 : b ≤ 4500) (w : World) :
    Calls Try.prog 10 #[.int .i64 a, .int .i64 b] w fun e w' => e = .returned (.int .i64 (a + b)) ∧ w' = w := by
  have h := implAddTop_any a b (by omega) (by omega) (by omega) (by omega) w
  rwa [clip_in (by omega) (by omega)] at h
theorem small_mul (a b : Int) (a1 : -4500 ≤ a) (a2 : a ≤ 4500) (b1 : -4500 ≤ b) (b2 : b ≤ 4500) : -200000000 ≤ a * b ∧ a * b ≤ 200000000 := by
  have h1 : (a + 4500) * (b + 4500) ≤ 9000 * 9000 := Int.mul_le_mul (by omega) (by omega) (by omega) (by omega)
  have h2 : 0 ≤ (a + 4500) * (b + 4500) := Int.mul_nonneg (by omega) (by omega)
  have e : (a + 4500) * (b + 4500) = a * b + 4500 * a + 4500 * b + 20250000 := by rw [Int.add_mul, Int.mul_add, Int.mul_add]; omega
  omega
theorem implMulTop_small (a b : Int) (a1 : -4500 ≤ a) (a2 : a ≤ 4500) (b1 : -4500 ≤ b) (b2 : b ≤ 4500) (w : World) :
    Calls Try.prog 11 #[.int .i64 a, .int .i64 b] w fun e w' => e = .returned (.int .i64 (a * b)) ∧ w' = w ∧ -200000000 ≤ a * b ∧ a * b ≤ 200000000 := by
  have hb := small_mul a b a1 a2 b1 b2
  have h := implMulTop_any a b (by omega) (by omega) (by omega) (by omega) w
  rw [clip_in (by omega) (by omega)] at h
  exact h.mono fun e w' ⟨he, hw⟩ => ⟨he, hw, hb.1, hb.2⟩
end Go.Proofs.Ytdpapffocfogkaa
