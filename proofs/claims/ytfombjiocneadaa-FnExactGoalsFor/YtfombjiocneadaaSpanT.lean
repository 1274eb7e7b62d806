/-
  The law's spans, turned into the program's; answers that are the same.
-/
import Derived.Test.YtfombjiocneadaaCellsN
import Derived.Test.YtfombjiocneadaaCellsS
import Derived.Test.YtfombjiocneadaaCellsG
namespace Go.Proofs.Ytfombjiocneadaa
open Go.RowKit Pl
set_option linter.unusedSimpArgs false
set_option linter.unusedVariables false

set_option maxRecDepth 20000 in
set_option maxHeartbeats 8000000 in
theorem eqGoalsResult_same (k p q : Int) (w : World) :
    Calls Try.prog 22 #[.agg #[.int .i64 k, .int .i64 p, .int .i64 q], .agg #[.int .i64 k, .int .i64 p, .int .i64 q]] w fun e w' => e = .returned (.bool true) ∧ Below w.heap.size w w' := by
  go_enter Try.func22, Try.ntmps22
  go_wp2
  go_ret
  exact ⟨rfl, by repeat (first | exact Below.refl _ _ | (refine Below.alloc ?_ ?_ _) | (refine Below.setCell ?_ ?_ _) | (simp; omega) | simp)⟩
end Go.Proofs.Ytfombjiocneadaa
