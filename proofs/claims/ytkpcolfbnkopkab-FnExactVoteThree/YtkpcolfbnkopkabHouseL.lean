/-
  The model's house: the places of its floors and refuges, and its ends.
-/
import Derived.Test.YtkpcolfbnkopkabFnd
namespace Go.Proofs.Ytkpcolfbnkopkab
open Go.RowKit Pl

end Go.Proofs.Ytkpcolfbnkopkab
