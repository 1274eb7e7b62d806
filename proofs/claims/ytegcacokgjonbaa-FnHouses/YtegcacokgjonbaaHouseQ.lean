/-
  The model's FloorAt.
-/
import Derived.Test.YtegcacokgjonbaaHouseE
import Derived.Test.YtegcacokgjonbaaHouseP
namespace Go.Proofs.Ytegcacokgjonbaa
open Go.RowKit Pl

theorem RAt.drew {w : World} {b : Nat} (a : RAt w b) : RAt w.drew b := a.below (Below.refl w.heap.size w).drew a.lt

end Go.Proofs.Ytegcacokgjonbaa
