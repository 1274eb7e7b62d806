/-
  The model's house: the places of its floors and refuges, and its ends.
-/
import Derived.Test.YthinefjakimccaaFnd
namespace Go.Proofs.Ythinefjakimccaa
open Go.RowKit Pl

end Go.Proofs.Ythinefjakimccaa
