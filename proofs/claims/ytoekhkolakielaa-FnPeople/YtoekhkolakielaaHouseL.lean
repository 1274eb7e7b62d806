/-
  The model's house: the places of its floors and refuges, and its ends.
-/
import Derived.Test.YtoekhkolakielaaFnd
namespace Go.Proofs.Ytoekhkolakielaa
open Go.RowKit Pl

end Go.Proofs.Ytoekhkolakielaa
