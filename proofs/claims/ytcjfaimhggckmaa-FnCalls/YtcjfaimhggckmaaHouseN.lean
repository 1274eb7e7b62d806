/-
  The model's house: the bounds of a run and of a service.
-/
import Derived.Test.YtcjfaimhggckmaaHouseL
import Derived.Test.YtcjfaimhggckmaaFnd
namespace Go.Proofs.Ytcjfaimhggckmaa
open Go.RowKit Pl

end Go.Proofs.Ytcjfaimhggckmaa
