/-
  The model's car and command: their faults; how high and how low a car comes.
-/
import Derived.Test.YthinefjakimccaaCarA
import Derived.Test.YthinefjakimccaaHouseE
import Derived.BigGuardPart
namespace Go.Proofs.Ythinefjakimccaa
open Go.RowKit Pl

end Go.Proofs.Ythinefjakimccaa
