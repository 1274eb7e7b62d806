/-
  A quotient that is rounded up, the program's and the model's.
-/
import Derived.Test.YtfombjiocneadaaRes
namespace Go.Proofs.Ytfombjiocneadaa
open Go.RowKit Pl

end Go.Proofs.Ytfombjiocneadaa
