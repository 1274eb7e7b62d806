/-
  The model's house: the nearest floor.
-/
import Derived.Test.YtllphhhaaoggjaaHouseL
namespace Go.Proofs.Ytllphhhaaoggjaa
open Go.RowKit Pl

end Go.Proofs.Ytllphhhaaoggjaa
