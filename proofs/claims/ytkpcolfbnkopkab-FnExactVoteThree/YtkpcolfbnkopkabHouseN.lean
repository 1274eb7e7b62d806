/-
  The model's house: the bounds of a run and of a service.
-/
import Derived.Test.YtkpcolfbnkopkabHouseL
import Derived.Test.YtkpcolfbnkopkabFnd
namespace Go.Proofs.Ytkpcolfbnkopkab
open Go.RowKit Pl

end Go.Proofs.Ytkpcolfbnkopkab
