/-
  The model's house: the places of its floors and refuges, and its ends.
-/
import Derived.Test.YtoacnglcneliiaaGreatDoorFnd
namespace Go.Proofs.YtoacnglcneliiaaGreatDoor
open Go.RowKit Pl

end Go.Proofs.YtoacnglcneliiaaGreatDoor
