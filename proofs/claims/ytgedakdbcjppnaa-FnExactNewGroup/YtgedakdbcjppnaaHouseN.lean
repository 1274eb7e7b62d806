/-
  The model's house: the bounds of a run and of a service.
-/
import Derived.Test.YtgedakdbcjppnaaHouseL
import Derived.Test.YtgedakdbcjppnaaFnd
namespace Go.Proofs.Ytgedakdbcjppnaa
open Go.RowKit Pl

end Go.Proofs.Ytgedakdbcjppnaa
