/-
  A quotient that is rounded up, the program's and the model's.
-/
import Derived.Test.YtegcacokgjonbabRes
namespace Go.Proofs.Ytegcacokgjonbab
open Go.RowKit Pl

end Go.Proofs.Ytegcacokgjonbab
