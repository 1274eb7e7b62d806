/-
  The model's shaft: its fault, a fresh one; where a car stands.
-/
import Derived.Test.YtgedakdbcjppnaaCarB
import Derived.Test.YtgedakdbcjppnaaFnd
import Derived.Test.YtgedakdbcjppnaaHouseP
namespace Go.Proofs.Ytgedakdbcjppnaa
open Go.RowKit Pl
set_option linter.unusedSimpArgs false

end Go.Proofs.Ytgedakdbcjppnaa
