/-
  The program's CommandFor, ReachedBy, FarOf.
-/
import Derived.Test.YthfnphbgjfcdaaaProfI
import Derived.Test.YthfnphbgjfcdaaaProfC
import Derived.Test.YthfnphbgjfcdaaaProfF
namespace Go.Proofs.Ythfnphbgjfcdaaa
open Go.RowKit Pl
set_option linter.unusedSimpArgs false
set_option linter.unusedVariables false

theorem sz_absI (n : Int) : sz n = absI n := rfl
end Go.Proofs.Ythfnphbgjfcdaaa
