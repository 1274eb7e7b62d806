/-
  A quotient that is rounded up, the program's and the model's.
-/
import Derived.Test.YthnpagnjdioagaaRes
namespace Go.Proofs.Ythnpagnjdioagaa
open Go.RowKit Pl

end Go.Proofs.Ythnpagnjdioagaa
