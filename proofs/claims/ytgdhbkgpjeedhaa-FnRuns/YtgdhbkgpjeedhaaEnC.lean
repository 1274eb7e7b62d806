/-
  Books: a step, as the model keeps them.
-/
import Derived.Test.YtgdhbkgpjeedhaaEnA
import Derived.Test.YtgdhbkgpjeedhaaCarS
import Derived.Test.YtgdhbkgpjeedhaaCarA
import Derived.Deep.DeepCutAuto
namespace Go.Proofs.Ytgdhbkgpjeedhaa
open Go.RowKit Pl
set_option linter.unusedSimpArgs false
set_option linter.unusedVariables false

/-- What is answered: a code, a book, a car. -/
def isBk (w : World) (R : Bks) (e : Ending) (w' : World) : Prop := e = .returned (.agg #[.int .i64 R.k, .int .i64 R.b.i, .int .i64 R.b.o, .int .i64 R.b.l, .int .i64 R.c.pos, .int .i64 R.c.vel, .int .i64 R.c.door]) ∧ Below w.heap.size w w'
theorem ret_bk {R S : Bks} (h : R = S) : Ending.returned (.agg #[.int .i64 R.k, .int .i64 R.b.i, .int .i64 R.b.o, .int .i64 R.b.l, .int .i64 R.c.pos, .int .i64 R.c.vel, .int .i64 R.c.door]) = .returned (.agg #[.int .i64 S.k, .int .i64 S.b.i, .int .i64 S.b.o, .int .i64 S.b.l, .int .i64 S.c.pos, .int .i64 S.c.vel, .int .i64 S.c.door]) := by rw [h]
end Go.Proofs.Ytgdhbkgpjeedhaa
