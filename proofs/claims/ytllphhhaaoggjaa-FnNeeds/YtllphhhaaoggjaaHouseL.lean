/-
  The model's house: the places of its floors and refuges, and its ends.
-/
import Derived.Test.YtllphhhaaoggjaaHouseA
import Derived.Test.YtllphhhaaoggjaaToHouse
namespace Go.Proofs.Ytllphhhaaoggjaa
open Go.RowKit Pl

end Go.Proofs.Ytllphhhaaoggjaa
