/-
  A quotient that is rounded up, the program's and the model's.
-/
import Derived.Test.YtlncnfagamajiabRes
namespace Go.Proofs.Ytlncnfagamajiab
open Go.RowKit Pl

end Go.Proofs.Ytlncnfagamajiab
