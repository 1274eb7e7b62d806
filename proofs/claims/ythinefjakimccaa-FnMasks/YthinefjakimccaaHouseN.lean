/-
  The model's house: the bounds of a run and of a service.
-/
import Derived.Test.YthinefjakimccaaHouseL
import Derived.Test.YthinefjakimccaaFnd
namespace Go.Proofs.Ythinefjakimccaa
open Go.RowKit Pl

end Go.Proofs.Ythinefjakimccaa
