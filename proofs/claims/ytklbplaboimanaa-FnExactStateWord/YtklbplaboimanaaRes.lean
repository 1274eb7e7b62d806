/-
  RoundUp, the program's and the model's, and how two results are held against one another.
-/
import Derived.Test.YtklbplaboimanaaBase
namespace Go.Proofs.Ytklbplaboimanaa
open Go.RowKit Pl

theorem l1In_yes (n low high : Int) (h1 : low ≤ n) (h2 : n ≤ high) (w : World) :
    Calls Try.prog 6 #[.int .i64 n, .int .i64 low, .int .i64 high] w fun e w' => e = .returned (.bool true) ∧ w' = w := by
  go_enter Try.func6, Try.ntmps6
  go_wp2
  go_ret
  exact ⟨rfl, rfl⟩
theorem l1In_no (n low high : Int) (h : n < low ∨ high < n) (w : World) :
    Calls Try.prog 6 #[.int .i64 n, .int .i64 low, .int .i64 high] w fun e w' => e = .returned (.bool false) ∧ w' = w := by
  by_cases h1 : n < low
  · go_enter Try.func6, Try.ntmps6
    go_wp2
    go_ret
    exact ⟨rfl, rfl⟩
  · have h2 : decide (n ≤ high) = false := decide_eq_false (by omega)
    go_enter Try.func6, Try.ntmps6
    go_wp2
    go_ret
    exact ⟨rfl, rfl⟩

theorem l1In_any (n low high : Int) (w : World) :
    Calls Try.prog 6 #[.int .i64 n, .int .i64 low, .int .i64 high] w fun e w' => e = .returned (.bool (inB n low high)) ∧ w' = w := by
  by_cases h : low ≤ n ∧ n ≤ high
  · rw [inB_yes h.1 h.2]; exact l1In_yes n low high h.1 h.2 w
  · rw [inB_no (by omega)]; exact l1In_no n low high (by omega) w

end Go.Proofs.Ytklbplaboimanaa
