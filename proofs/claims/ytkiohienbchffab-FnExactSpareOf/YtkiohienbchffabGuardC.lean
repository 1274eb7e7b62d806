/-
  The model's guard: the pair that it tells; GuardPair.
-/
import Derived.Test.YtkiohienbchffabGuardB
import Derived.Test.YtkiohienbchffabCellsD
namespace Go.Proofs.Ytkiohienbchffab
open Go.RowKit Pl
set_option linter.unusedSimpArgs false
set_option linter.unusedVariables false

/-- A pair is answered, and nothing that was there has turned. -/
def isPair (w : World) (k : Int) (p q : Cm) (e : Ending) (w' : World) : Prop := e = .returned (.agg #[.int .i64 k, .int .i64 p.push, .bool p.brk, .bool p.opn, .int .i64 q.push, .bool q.brk, .bool q.opn]) ∧ Below w.heap.size w w'
theorem pair_ok {h : Hs} {s : Sh} {a b : Cm} (e : Hs.pairK h s a b = 0) : CarOk h s.lo ∧ CarOk h s.up ∧ (-h.pu ≤ a.push ∧ a.push ≤ h.pu) ∧ (-h.pu ≤ b.push ∧ b.push ≤ h.pu) := by
  obtain ⟨e1, e2, e3⟩ := pair_zero e
  obtain ⟨k1, k2, _, _, _⟩ := shaft_parts e1
  have k := Hs.car_zero k1
  exact ⟨k, Hs.car_zero k2, cmd_push k.hf e2, cmd_push k.hf e3⟩
end Go.Proofs.Ytkiohienbchffab
