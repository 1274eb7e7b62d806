/-
  The model's house: the nearest floor.
-/
import Derived.Test.YtoekhkolakielaaHouseL
namespace Go.Proofs.Ytoekhkolakielaa
open Go.RowKit Pl

end Go.Proofs.Ytoekhkolakielaa
