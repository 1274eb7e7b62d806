/-
  The program's shaft: its fault.
-/
import Derived.Test.YtgedakdbcjppnaaCarJ
import Derived.Test.YtgedakdbcjppnaaFnd
namespace Go.Proofs.Ytgedakdbcjppnaa
open Go.RowKit Pl
set_option linter.unusedSimpArgs false
set_option linter.unusedVariables false

end Go.Proofs.Ytgedakdbcjppnaa
