/-
  A quotient that is rounded up, the program's and the model's.
-/
import Derived.Test.YtegcacokgjonbaaRes
namespace Go.Proofs.Ytegcacokgjonbaa
open Go.RowKit Pl

end Go.Proofs.Ytegcacokgjonbaa
