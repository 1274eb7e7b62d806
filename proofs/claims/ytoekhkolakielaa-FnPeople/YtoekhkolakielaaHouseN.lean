/-
  The model's house: the bounds of a run and of a service.
-/
import Derived.Test.YtoekhkolakielaaHouseL
import Derived.Test.YtoekhkolakielaaFnd
namespace Go.Proofs.Ytoekhkolakielaa
open Go.RowKit Pl

end Go.Proofs.Ytoekhkolakielaa
