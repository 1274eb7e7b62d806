/-
  The model's ledger: who is next in a car.
-/
import Derived.Test.YtcjfaimhggckmaaPersKd
import Derived.Deep.RegionHeld3
import Derived.BigGuardPart
namespace Go.Proofs.Ytcjfaimhggckmaa
open Go.RowKit Pl
set_option linter.unusedSimpArgs false
set_option linter.unusedVariables false

end Go.Proofs.Ytcjfaimhggckmaa
