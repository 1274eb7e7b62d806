/-
  The model's house: the places of its floors and refuges, and its ends.
-/
import Derived.Test.YtnpnlckdggakmaaFnd
namespace Go.Proofs.Ytnpnlckdggakmaa
open Go.RowKit Pl

end Go.Proofs.Ytnpnlckdggakmaa
