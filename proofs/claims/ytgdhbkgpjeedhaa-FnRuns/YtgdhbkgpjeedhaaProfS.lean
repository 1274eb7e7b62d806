/-
  The model's RunTo, its run.
-/
import Derived.Test.YtgdhbkgpjeedhaaProfR
import Derived.Deep.DeepCutAuto
namespace Go.Proofs.Ytgdhbkgpjeedhaa
open Go.RowKit Pl
set_option linter.unusedSimpArgs false
set_option linter.unusedVariables false

end Go.Proofs.Ytgdhbkgpjeedhaa
