/-
  The model's house: the nearest floor.
-/
import Derived.Test.YtdkikijnjkoddaaGreatHsL
namespace Go.Proofs.YtdkikijnjkoddaaGreat
open Go.RowKit Pl

end Go.Proofs.YtdkikijnjkoddaaGreat
