/-
  The model's house: the nearest floor.
-/
import Derived.Test.YtnpnlckdggakmaaHouseL
namespace Go.Proofs.Ytnpnlckdggakmaa
open Go.RowKit Pl

end Go.Proofs.Ytnpnlckdggakmaa
