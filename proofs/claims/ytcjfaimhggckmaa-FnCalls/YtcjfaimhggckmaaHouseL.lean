/-
  The model's house: the places of its floors and refuges, and its ends.
-/
import Derived.Test.YtcjfaimhggckmaaFnd
namespace Go.Proofs.Ytcjfaimhggckmaa
open Go.RowKit Pl

end Go.Proofs.Ytcjfaimhggckmaa
