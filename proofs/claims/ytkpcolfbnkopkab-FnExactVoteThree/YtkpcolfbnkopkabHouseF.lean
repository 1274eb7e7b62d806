/-
  The model's house: its fault.
-/
import Derived.Test.YtkpcolfbnkopkabHouseR
import Derived.Test.YtkpcolfbnkopkabFnd
import Derived.Deep.RegionWith
namespace Go.Proofs.Ytkpcolfbnkopkab
open Go.RowKit Pl

end Go.Proofs.Ytkpcolfbnkopkab
