/-
  The model's command for a floor; whether it has come there; how far it is.
-/
import Derived.Test.YtnpnlckdggakmaaProfA
import Derived.Deep.DeepCutAuto
namespace Go.Proofs.Ytnpnlckdggakmaa
open Go.RowKit Pl
set_option linter.unusedSimpArgs false
set_option linter.unusedVariables false

end Go.Proofs.Ytnpnlckdggakmaa
