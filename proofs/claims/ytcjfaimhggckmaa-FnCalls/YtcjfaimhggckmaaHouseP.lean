/-
  The model's house: the nearest floor.
-/
import Derived.Test.YtcjfaimhggckmaaHouseL
namespace Go.Proofs.Ytcjfaimhggckmaa
open Go.RowKit Pl

end Go.Proofs.Ytcjfaimhggckmaa
