/-
  The model's car and command: their faults; how high and how low a car comes.
-/
import Derived.Test.YtnpnlckdggakmaaCarA
import Derived.Test.YtnpnlckdggakmaaHouseE
import Derived.BigGuardPart
namespace Go.Proofs.Ytnpnlckdggakmaa
open Go.RowKit Pl

end Go.Proofs.Ytnpnlckdggakmaa
