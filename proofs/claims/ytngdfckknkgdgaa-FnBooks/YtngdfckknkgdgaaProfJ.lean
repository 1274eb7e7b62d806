/-
  The program's CommandFor, ReachedBy, FarOf.
-/
import Derived.Test.YtngdfckknkgdgaaProfI
import Derived.Test.YtngdfckknkgdgaaProfC
import Derived.Test.YtngdfckknkgdgaaProfF
namespace Go.Proofs.Ytngdfckknkgdgaa
open Go.RowKit Pl
set_option linter.unusedSimpArgs false
set_option linter.unusedVariables false

theorem sz_absI (n : Int) : sz n = absI n := rfl
end Go.Proofs.Ytngdfckknkgdgaa
