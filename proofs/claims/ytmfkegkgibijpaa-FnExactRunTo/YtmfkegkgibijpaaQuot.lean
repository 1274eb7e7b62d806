/-
  A quotient that is rounded up, the program's and the model's.
-/
import Derived.Test.YtmfkegkgibijpaaRes
namespace Go.Proofs.Ytmfkegkgibijpaa
open Go.RowKit Pl

end Go.Proofs.Ytmfkegkgibijpaa
