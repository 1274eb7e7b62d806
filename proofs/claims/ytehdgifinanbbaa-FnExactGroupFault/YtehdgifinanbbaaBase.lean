/-
  What the small functions of chapter 1 answer: sizes, sides, numbers within the top. Each answers at every argument that is named, and the world stays as it was.
-/
import Derived.Test.YtehdgifinanbbaaProg
import Derived.WalkKit
import Derived.WalkLawsBesides
import Derived.Laws.Bits64
import Derived.Handy
import Derived.Laws.Externs
import Derived.Test.YtehdgifinanbbaaPlain
namespace Go.Proofs.Ytehdgifinanbbaa
open Go.RowKit Pl

theorem ret_int {k : IntKind} {a b : Int} (h : a = b) : Ending.returned (.int k a) = .returned (.int k b) := by rw [h]

theorem sizeOf_any (n : Int) (h1 : -9223372036854775808 ≤ n) (h2 : n ≤ 9223372036854775807) (w : World) :
    Calls Try.prog 140 #[.int .i64 n] w fun e w' => e = .returned (.int .u64 (sz n)) ∧ w' = w := by
  by_cases h : n < 0
  · go_enter Try.func140, Try.ntmps140
    go_wp2
    go_ret
    exact ⟨ret_int (by rw [sz_neg h]; simp only [IntKind.wrap_u64]; omega), rfl⟩
  · go_enter Try.func140, Try.ntmps140
    go_wp2
    go_ret
    exact ⟨ret_int (by rw [sz_pos (by omega)]), rfl⟩

end Go.Proofs.Ytehdgifinanbbaa
