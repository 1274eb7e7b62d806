/-
  The model's spans: their fault; growing; an aim; are they safe?
-/
import Derived.Test.YtfombjiocneadaaCellsN
import Derived.Test.YtfombjiocneadaaCellsS
import Derived.Test.YtfombjiocneadaaCellsG
import Derived.BigGuardPart
namespace Go.Proofs.Ytfombjiocneadaa
open Go.RowKit Pl
set_option linter.unusedSimpArgs false
set_option linter.unusedVariables false

end Go.Proofs.Ytfombjiocneadaa
