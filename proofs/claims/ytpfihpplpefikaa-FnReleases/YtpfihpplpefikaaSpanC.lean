/-
  The model's goals of two cars.
-/
import Derived.Test.YtpfihpplpefikaaSpanB
import Derived.Test.YtpfihpplpefikaaCarU
namespace Go.Proofs.Ytpfihpplpefikaa
open Go.RowKit Pl
set_option linter.unusedSimpArgs false
set_option linter.unusedVariables false

/-- Goals are answered, and nothing that was there has turned. -/
def isGoal (w : World) (k p q : Int) (e : Ending) (w' : World) : Prop := e = .returned (.agg #[.int .i64 k, .int .i64 p, .int .i64 q]) ∧ Below w.heap.size w w'
end Go.Proofs.Ytpfihpplpefikaa
