/-
  The program's CommandFor, ReachedBy, FarOf.
-/
import Derived.Test.YtiahefgmenoflaaProfI
import Derived.Test.YtiahefgmenoflaaProfC
import Derived.Test.YtiahefgmenoflaaProfF
namespace Go.Proofs.Ytiahefgmenoflaa
open Go.RowKit Pl
set_option linter.unusedSimpArgs false
set_option linter.unusedVariables false

theorem sz_absI (n : Int) : sz n = absI n := rfl
end Go.Proofs.Ytiahefgmenoflaa
