/-
  The model's house: the places of its floors and refuges, and its ends.
-/
import Derived.Test.YtobiofheekandaaFnd
namespace Go.Proofs.Ytobiofheekandaa
open Go.RowKit Pl

end Go.Proofs.Ytobiofheekandaa
