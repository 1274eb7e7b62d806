/-
  The model's house: its fault.
-/
import Derived.Test.YtkpcolfbnkopkaaHouseR
import Derived.Test.YtkpcolfbnkopkaaFnd
import Derived.Deep.RegionWith
namespace Go.Proofs.Ytkpcolfbnkopkaa
open Go.RowKit Pl

end Go.Proofs.Ytkpcolfbnkopkaa
