/-
  The model's house: the bounds of a run and of a service.
-/
import Derived.Test.YtllphhhaaoggjaaHouseL
import Derived.Test.YtllphhhaaoggjaaQuot
namespace Go.Proofs.Ytllphhhaaoggjaa
open Go.RowKit Pl

end Go.Proofs.Ytllphhhaaoggjaa
