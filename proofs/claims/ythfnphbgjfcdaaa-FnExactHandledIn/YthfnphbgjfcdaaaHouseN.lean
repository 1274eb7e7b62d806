/-
  The model's house: the bounds of a run and of a service.
-/
import Derived.Test.YthfnphbgjfcdaaaHouseL
import Derived.Test.YthfnphbgjfcdaaaFnd
namespace Go.Proofs.Ythfnphbgjfcdaaa
open Go.RowKit Pl

end Go.Proofs.Ythfnphbgjfcdaaa
