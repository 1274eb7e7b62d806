/-
  The model's push for a path; has a car come to its floor?
-/
import Derived.Test.YtnpnlckdggakmaaProf
import Derived.Test.YtnpnlckdggakmaaFnd
import Derived.Test.YtnpnlckdggakmaaCarV
namespace Go.Proofs.Ytnpnlckdggakmaa
open Go.RowKit Pl
set_option linter.unusedSimpArgs false
set_option linter.unusedVariables false

/-- Has a car come to a floor or refuge? -/
def Hs.reachB (h : Hs) (c : Cs) (f : Int) : Bool := (c.vel == 0) && Hs.near h c f
end Go.Proofs.Ytnpnlckdggakmaa
