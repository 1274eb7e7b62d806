/-
  The model's tick of a car.
-/
import Derived.Test.YtdkikijnjkoddaaGreatCarB
import Derived.Test.YtdkikijnjkoddaaGreatFnd
namespace Go.Proofs.YtdkikijnjkoddaaGreat
open Go.RowKit Pl

/-- What a tick makes of a car. -/
def stepC (h : Hs) (c : Cs) (x : Cm) (d : Int) : Cs :=
  if c.door ≠ 0 ∨ (x.opn = true ∧ c.vel = 0) then (if x.opn = true then ⟨c.pos, c.vel, min h.dO (c.door + 1)⟩ else ⟨c.pos, c.vel, c.door - 1⟩)
  else if x.brk = true ∨ x.opn = true then ⟨c.pos + brk c.vel h.br, brk c.vel h.br, c.door⟩
  else ⟨c.pos + clip h.sp (c.vel + x.push + d), clip h.sp (c.vel + x.push + d), c.door⟩

end Go.Proofs.YtdkikijnjkoddaaGreat
