/-
  RoundUp, the program's and the model's, and how two results are held against one another.
-/
import Derived.Test.YtehdgifinanbbaaBase
namespace Go.Proofs.Ytehdgifinanbbaa
open Go.RowKit Pl

theorem isWithin_yes (n low high : Int) (h1 : low ≤ n) (h2 : n ≤ high) (w : World) :
    Calls Try.prog 38 #[.int .i64 n, .int .i64 low, .int .i64 high] w fun e w' => e = .returned (.bool true) ∧ w' = w := by
  go_enter Try.func38, Try.ntmps38
  go_wp2
  go_ret
  exact ⟨rfl, rfl⟩
theorem isWithin_no (n low high : Int) (h : n < low ∨ high < n) (w : World) :
    Calls Try.prog 38 #[.int .i64 n, .int .i64 low, .int .i64 high] w fun e w' => e = .returned (.bool false) ∧ w' = w := by
  by_cases h1 : n < low
  · go_enter Try.func38, Try.ntmps38
    go_wp2
    go_ret
    exact ⟨rfl, rfl⟩
  · have h2 : decide (n ≤ high) = false := decide_eq_false (by omega)
    go_enter Try.func38, Try.ntmps38
    go_wp2
    go_ret
    exact ⟨rfl, rfl⟩
theorem l1In_yes (n low high : Int) (h1 : low ≤ n) (h2 : n ≤ high) (w : World) :
    Calls Try.prog 32 #[.int .i64 n, .int .i64 low, .int .i64 high] w fun e w' => e = .returned (.bool true) ∧ w' = w := by
  go_enter Try.func32, Try.ntmps32
  go_wp2
  go_ret
  exact ⟨rfl, rfl⟩
theorem l1In_no (n low high : Int) (h : n < low ∨ high < n) (w : World) :
    Calls Try.prog 32 #[.int .i64 n, .int .i64 low, .int .i64 high] w fun e w' => e = .returned (.bool false) ∧ w' = w := by
  by_cases h1 : n < low
  · go_enter Try.func32, Try.ntmps32
    go_wp2
    go_ret
    exact ⟨rfl, rfl⟩
  · have h2 : decide (n ≤ high) = false := decide_eq_false (by omega)
    go_enter Try.func32, Try.ntmps32
    go_wp2
    go_ret
    exact ⟨rfl, rfl⟩

theorem isWithin_any (n low high : Int) (w : World) :
    Calls Try.prog 38 #[.int .i64 n, .int .i64 low, .int .i64 high] w fun e w' => e = .returned (.bool (inB n low high)) ∧ w' = w := by
  by_cases h : low ≤ n ∧ n ≤ high
  · rw [inB_yes h.1 h.2]; exact isWithin_yes n low high h.1 h.2 w
  · rw [inB_no (by omega)]; exact isWithin_no n low high (by omega) w
theorem l1In_any (n low high : Int) (w : World) :
    Calls Try.prog 32 #[.int .i64 n, .int .i64 low, .int .i64 high] w fun e w' => e = .returned (.bool (inB n low high)) ∧ w' = w := by
  by_cases h : low ≤ n ∧ n ≤ high
  · rw [inB_yes h.1 h.2]; exact l1In_yes n low high h.1 h.2 w
  · rw [inB_no (by omega)]; exact l1In_no n low high (by omega) w

/-- A result of a code and a value: it lies in a new block, which is all that the world has more. -/
def isRes (w : World) (c v : Int) (e : Ending) (w' : World) : Prop :=
  e = .returned (.agg #[.int .i64 c, .int .i64 v]) ∧ w' = w.alloc (.cells #[.int .i64 c, .int .i64 v] 56)
theorem isRes_of {w : World} {c v c' v' : Int} {e : Ending} {w' : World} (h : isRes w c v e w') (hc : c = c') (hv : v = v') : isRes w c' v' e w' := by
  subst hc; subst hv; exact h

/-- Two equal results are found equal. -/
theorem eqIntResult_same (c v : Int) (w : World) :
    Calls Try.prog 26 #[.agg #[.int .i64 c, .int .i64 v], .agg #[.int .i64 c, .int .i64 v]] w fun e w' => e = .returned (.bool true) ∧ w' = (w.alloc (.cells #[.int .i64 c, .int .i64 v] 56)).alloc (.cells #[.int .i64 c, .int .i64 v] 56) := by
  go_enter Try.func26, Try.ntmps26
  go_wp2
  go_ret
  exact ⟨rfl, rfl⟩
end Go.Proofs.Ytehdgifinanbbaa
