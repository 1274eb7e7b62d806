/-
  The model's house: the bounds of a run and of a service.
-/
import Derived.Test.YtoacnglcneliiaaGreatDoorHouseL
import Derived.Test.YtoacnglcneliiaaGreatDoorFnd
namespace Go.Proofs.YtoacnglcneliiaaGreatDoor
open Go.RowKit Pl

end Go.Proofs.YtoacnglcneliiaaGreatDoor
