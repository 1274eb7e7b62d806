/-
  The program's hasPlace: is that a floor or a refuge?
-/
import Derived.Test.YtgedakdbcjppnaaHouseJ
namespace Go.Proofs.Ytgedakdbcjppnaa
open Go.RowKit Pl
set_option linter.unusedSimpArgs false
set_option linter.unusedVariables false

end Go.Proofs.Ytgedakdbcjppnaa
