/-
  The model's house: the nearest floor.
-/
import Derived.Test.YtoacnglcneliiaaGreatDoorHouseL
namespace Go.Proofs.YtoacnglcneliiaaGreatDoor
open Go.RowKit Pl

end Go.Proofs.YtoacnglcneliiaaGreatDoor
