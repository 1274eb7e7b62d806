/-
  The model's spans: their fault; growing; an aim; are they safe?
-/
import Derived.Test.YtgedakdbcjppnaaCellsN
import Derived.Test.YtgedakdbcjppnaaCellsS
import Derived.Test.YtgedakdbcjppnaaFnd
import Derived.BigGuardPart
namespace Go.Proofs.Ytgedakdbcjppnaa
open Go.RowKit Pl
set_option linter.unusedSimpArgs false
set_option linter.unusedVariables false

end Go.Proofs.Ytgedakdbcjppnaa
