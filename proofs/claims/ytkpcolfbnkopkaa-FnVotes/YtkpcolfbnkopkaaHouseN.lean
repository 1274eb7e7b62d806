/-
  The model's house: the bounds of a run and of a service.
-/
import Derived.Test.YtkpcolfbnkopkaaHouseL
import Derived.Test.YtkpcolfbnkopkaaFnd
namespace Go.Proofs.Ytkpcolfbnkopkaa
open Go.RowKit Pl

end Go.Proofs.Ytkpcolfbnkopkaa
