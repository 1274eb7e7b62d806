/-
  A quotient that is rounded up, the program's and the model's.
-/
import Derived.Test.YtiahefgmenoflaaRes
namespace Go.Proofs.Ytiahefgmenoflaa
open Go.RowKit Pl

end Go.Proofs.Ytiahefgmenoflaa
