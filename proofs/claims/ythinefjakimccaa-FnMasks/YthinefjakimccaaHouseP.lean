/-
  The model's house: the nearest floor.
-/
import Derived.Test.YthinefjakimccaaHouseL
namespace Go.Proofs.Ythinefjakimccaa
open Go.RowKit Pl

theorem l1Abs_any (a : Int) (h1 : -9223372036854775807 ≤ a) (h2 : a ≤ 9223372036854775807) (w : World) :
    Calls Try.prog 49 #[.int .i64 a] w fun e w' => e = .returned (.int .i64 (absI a)) ∧ w' = w := by
  by_cases h : a < 0
  · have e : Hid (absI a = -a) := by unfold absI; rw [if_pos h]; exact rfl
    go_enter Try.func49, Try.ntmps49
    go_wp2
    go_ret
    exact ⟨ret_int e.out.symm, rfl⟩
  · have e : Hid (absI a = a) := by unfold absI; rw [if_neg h]; exact rfl
    go_enter Try.func49, Try.ntmps49
    go_wp2
    go_ret
    exact ⟨ret_int e.out.symm, rfl⟩

end Go.Proofs.Ythinefjakimccaa
