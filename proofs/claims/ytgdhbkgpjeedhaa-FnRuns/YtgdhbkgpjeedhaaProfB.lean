/-
  The model's command for a floor; whether it has come there; how far it is.
-/
import Derived.Test.YtgdhbkgpjeedhaaProfA
import Derived.Deep.DeepCutAuto
namespace Go.Proofs.Ytgdhbkgpjeedhaa
open Go.RowKit Pl
set_option linter.unusedSimpArgs false
set_option linter.unusedVariables false

end Go.Proofs.Ytgdhbkgpjeedhaa
