/-
  The program's car and command: their faults; how high and how low a car comes.
-/
import Derived.Test.YtgedakdbcjppnaaCarB
import Derived.Test.YtgedakdbcjppnaaHouseK
namespace Go.Proofs.Ytgedakdbcjppnaa
open Go.RowKit Pl
set_option linter.unusedSimpArgs false

end Go.Proofs.Ytgedakdbcjppnaa
