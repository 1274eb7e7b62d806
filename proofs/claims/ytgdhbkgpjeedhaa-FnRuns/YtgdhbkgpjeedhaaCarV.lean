/-
  The model's fresh shaft, and where a car stands.
-/
import Derived.Test.YtgdhbkgpjeedhaaCarB
import Derived.Test.YtgdhbkgpjeedhaaHouseP
namespace Go.Proofs.Ytgdhbkgpjeedhaa
open Go.RowKit Pl
set_option linter.unusedSimpArgs false

/-- A code and a shaft are answered, and nothing that was there has turned. -/
def isShaft (w : World) (k : Int) (s : Sh) (e : Ending) (w' : World) : Prop :=
  e = .returned (.agg #[.int .i64 k, .int .i64 s.lo.pos, .int .i64 s.lo.vel, .int .i64 s.lo.door, .int .i64 s.up.pos, .int .i64 s.up.vel, .int .i64 s.up.door]) ∧ Below w.heap.size w w'

/-- Does a car stand at a floor? -/
def Hs.near (h : Hs) (c : Cs) (f : Int) : Bool := decide (absI (c.pos - h.level f) ≤ h.lv)
def Hs.stands (h : Hs) (c : Cs) (f : Int) : Bool := (h.car c == 0) && (inB f 0 (h.fl - 1) && ((c.vel == 0) && Hs.near h c f))

end Go.Proofs.Ytgdhbkgpjeedhaa
