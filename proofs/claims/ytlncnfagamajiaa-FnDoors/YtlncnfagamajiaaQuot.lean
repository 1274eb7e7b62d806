/-
  A quotient that is rounded up, the program's and the model's.
-/
import Derived.Test.YtlncnfagamajiaaRes
namespace Go.Proofs.Ytlncnfagamajiaa
open Go.RowKit Pl

end Go.Proofs.Ytlncnfagamajiaa
