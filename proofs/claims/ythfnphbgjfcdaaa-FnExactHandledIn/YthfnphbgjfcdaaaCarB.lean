/-
  The model's car and command: their faults; how high and how low a car comes.
-/
import Derived.Test.YthfnphbgjfcdaaaCarA
import Derived.Test.YthfnphbgjfcdaaaHouseE
import Derived.BigGuardPart
namespace Go.Proofs.Ythfnphbgjfcdaaa
open Go.RowKit Pl

end Go.Proofs.Ythfnphbgjfcdaaa
