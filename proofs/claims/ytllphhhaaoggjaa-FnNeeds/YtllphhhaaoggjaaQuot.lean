/-
  A quotient that is rounded up, the program's and the model's.
-/
import Derived.Test.YtllphhhaaoggjaaRes
namespace Go.Proofs.Ytllphhhaaoggjaa
open Go.RowKit Pl

end Go.Proofs.Ytllphhhaaoggjaa
