/-
  The model's CommandFor, ReachedBy, FarOf.
-/
import Derived.Test.YtgdhbkgpjeedhaaProfB
namespace Go.Proofs.Ytgdhbkgpjeedhaa
open Go.RowKit Pl
set_option linter.unusedSimpArgs false
set_option linter.unusedVariables false

theorem ret_cmd {x y : Cm} (h : x = y) : Ending.returned (.agg #[.int .i64 x.push, .bool x.brk, .bool x.opn]) = .returned (.agg #[.int .i64 y.push, .bool y.brk, .bool y.opn]) := by rw [h]
/-- Does a car without a fault stand at a floor or refuge? -/
def Hs.reached (h : Hs) (c : Cs) (f : Int) : Bool := (h.car c == 0) && (inB f (-1) h.fl && Hs.reachB h c f)
end Go.Proofs.Ytgdhbkgpjeedhaa
