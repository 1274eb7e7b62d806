/-
  The model's car and command: their faults; how high and how low a car comes.
-/
import Derived.Test.YtkpcolfbnkopkabCarA
import Derived.Test.YtkpcolfbnkopkabHouseE
import Derived.BigGuardPart
namespace Go.Proofs.Ytkpcolfbnkopkab
open Go.RowKit Pl

end Go.Proofs.Ytkpcolfbnkopkab
