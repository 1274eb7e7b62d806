/-
  The model's car and command: their faults; how high and how low a car comes.
-/
import Derived.Test.YtkpcolfbnkopkaaCarA
import Derived.Test.YtkpcolfbnkopkaaHouseE
import Derived.BigGuardPart
namespace Go.Proofs.Ytkpcolfbnkopkaa
open Go.RowKit Pl

end Go.Proofs.Ytkpcolfbnkopkaa
