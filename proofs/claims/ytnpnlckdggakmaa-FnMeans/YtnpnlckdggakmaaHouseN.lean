/-
  The model's house: the bounds of a run and of a service.
-/
import Derived.Test.YtnpnlckdggakmaaHouseL
import Derived.Test.YtnpnlckdggakmaaFnd
namespace Go.Proofs.Ytnpnlckdggakmaa
open Go.RowKit Pl

end Go.Proofs.Ytnpnlckdggakmaa
