/-
  The model's car and command: their faults; how high and how low a car comes.
-/
import Derived.Test.YtgedakdbcjppnaaCarA
import Derived.Test.YtgedakdbcjppnaaHouseE
import Derived.BigGuardPart
namespace Go.Proofs.Ytgedakdbcjppnaa
open Go.RowKit Pl

end Go.Proofs.Ytgedakdbcjppnaa
