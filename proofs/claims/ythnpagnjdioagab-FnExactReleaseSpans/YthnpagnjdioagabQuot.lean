/-
  A quotient that is rounded up, the program's and the model's.
-/
import Derived.Test.YthnpagnjdioagabRes
namespace Go.Proofs.Ythnpagnjdioagab
open Go.RowKit Pl

end Go.Proofs.Ythnpagnjdioagab
