/-
  The model's house: the places of its floors and refuges, and its ends.
-/
import Derived.Test.YtkpcolfbnkopkaaFnd
namespace Go.Proofs.Ytkpcolfbnkopkaa
open Go.RowKit Pl

end Go.Proofs.Ytkpcolfbnkopkaa
