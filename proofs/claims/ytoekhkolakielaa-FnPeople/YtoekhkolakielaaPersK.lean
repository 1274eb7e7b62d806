/-
  The model's ledger: who is next in a car.
-/
import Derived.Test.YtoekhkolakielaaPersKd
import Derived.Deep.RegionHeld3
import Derived.BigGuardPart
namespace Go.Proofs.Ytoekhkolakielaa
open Go.RowKit Pl
set_option linter.unusedSimpArgs false
set_option linter.unusedVariables false

end Go.Proofs.Ytoekhkolakielaa
