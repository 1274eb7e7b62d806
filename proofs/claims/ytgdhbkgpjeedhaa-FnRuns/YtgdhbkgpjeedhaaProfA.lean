/-
  The model's push for a path; has a car come to its floor?
-/
import Derived.Test.YtgdhbkgpjeedhaaProf
import Derived.Test.YtgdhbkgpjeedhaaFnd
import Derived.Test.YtgdhbkgpjeedhaaCarV
namespace Go.Proofs.Ytgdhbkgpjeedhaa
open Go.RowKit Pl
set_option linter.unusedSimpArgs false
set_option linter.unusedVariables false

/-- Has a car come to a floor or refuge? -/
def Hs.reachB (h : Hs) (c : Cs) (f : Int) : Bool := (c.vel == 0) && Hs.near h c f
end Go.Proofs.Ytgdhbkgpjeedhaa
