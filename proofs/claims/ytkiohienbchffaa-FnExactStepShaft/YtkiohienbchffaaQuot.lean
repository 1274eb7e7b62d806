/-
  A quotient that is rounded up, the program's and the model's.
-/
import Derived.Test.YtkiohienbchffaaRes
namespace Go.Proofs.Ytkiohienbchffaa
open Go.RowKit Pl

end Go.Proofs.Ytkiohienbchffaa
