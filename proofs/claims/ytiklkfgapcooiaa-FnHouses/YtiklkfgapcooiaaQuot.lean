/-
  A quotient that is rounded up, the program's and the model's.
-/
import Derived.Test.YtiklkfgapcooiaaRes
namespace Go.Proofs.Ytiklkfgapcooiaa
open Go.RowKit Pl

end Go.Proofs.Ytiklkfgapcooiaa
