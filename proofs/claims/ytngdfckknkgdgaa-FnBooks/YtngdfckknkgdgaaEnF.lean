/-
  Energies: what the laws hold against one another.
-/
import Derived.Test.YtngdfckknkgdgaaEnB
import Derived.Test.YtngdfckknkgdgaaCarT
namespace Go.Proofs.Ytngdfckknkgdgaa
open Go.RowKit Pl

def Hs.movV (h : Hs) (c : Cs) (r : Int) : Int := if Hs.askK h c r = 0 then movE c r else 0
theorem specMovingOf_all (h : Hs) (c : Cs) (r : Int) (w : World) : Calls Try.prog 14 #[.agg #[.int .i64 h.fl, .int .i64 h.gp, .int .i64 h.ln, .int .i64 h.rf, .int .i64 h.sp, .int .i64 h.pu, .int .i64 h.br, .int .i64 h.dr, .int .i64 h.lv, .int .i64 h.dO, .int .i64 h.ld, .int .i64 h.qu], .agg #[.int .i64 c.pos, .int .i64 c.vel, .int .i64 c.door], .int .i64 r] w (isAns w (Hs.askK h c r) (Hs.movV h c r)) := specMovingOf_any h c r w
theorem implMovingOf_all (h : Hs) (c : Cs) (r : Int) (w : World) : Calls Try.prog 16 #[.agg #[.int .i64 h.fl, .int .i64 h.gp, .int .i64 h.ln, .int .i64 h.rf, .int .i64 h.sp, .int .i64 h.pu, .int .i64 h.br, .int .i64 h.dr, .int .i64 h.lv, .int .i64 h.dO, .int .i64 h.ld, .int .i64 h.qu], .agg #[.int .i64 c.pos, .int .i64 c.vel, .int .i64 c.door], .int .i64 r] w (isAns w (Hs.askK h c r) (Hs.movV h c r)) := implMovingOf_any h c r w
def Hs.raiV (h : Hs) (c : Cs) (r : Int) : Int := if Hs.askK h c r = 0 then raiE h c r else 0
theorem specRaisedOf_all (h : Hs) (c : Cs) (r : Int) (w : World) : Calls Try.prog 17 #[.agg #[.int .i64 h.fl, .int .i64 h.gp, .int .i64 h.ln, .int .i64 h.rf, .int .i64 h.sp, .int .i64 h.pu, .int .i64 h.br, .int .i64 h.dr, .int .i64 h.lv, .int .i64 h.dO, .int .i64 h.ld, .int .i64 h.qu], .agg #[.int .i64 c.pos, .int .i64 c.vel, .int .i64 c.door], .int .i64 r] w (isAns w (Hs.askK h c r) (Hs.raiV h c r)) := specRaisedOf_any h c r w
theorem implRaisedOf_all (h : Hs) (c : Cs) (r : Int) (w : World) : Calls Try.prog 18 #[.agg #[.int .i64 h.fl, .int .i64 h.gp, .int .i64 h.ln, .int .i64 h.rf, .int .i64 h.sp, .int .i64 h.pu, .int .i64 h.br, .int .i64 h.dr, .int .i64 h.lv, .int .i64 h.dO, .int .i64 h.ld, .int .i64 h.qu], .agg #[.int .i64 c.pos, .int .i64 c.vel, .int .i64 c.door], .int .i64 r] w (isAns w (Hs.askK h c r) (Hs.raiV h c r)) := implRaisedOf_any h c r w
def Hs.enV (h : Hs) (c : Cs) (r : Int) : Int := if Hs.askK h c r = 0 then enE h c r else 0
theorem specEnergyOf_all (h : Hs) (c : Cs) (r : Int) (w : World) : Calls Try.prog 19 #[.agg #[.int .i64 h.fl, .int .i64 h.gp, .int .i64 h.ln, .int .i64 h.rf, .int .i64 h.sp, .int .i64 h.pu, .int .i64 h.br, .int .i64 h.dr, .int .i64 h.lv, .int .i64 h.dO, .int .i64 h.ld, .int .i64 h.qu], .agg #[.int .i64 c.pos, .int .i64 c.vel, .int .i64 c.door], .int .i64 r] w (isAns w (Hs.askK h c r) (Hs.enV h c r)) := specEnergyOf_any h c r w
theorem implEnergyOf_all (h : Hs) (c : Cs) (r : Int) (w : World) : Calls Try.prog 20 #[.agg #[.int .i64 h.fl, .int .i64 h.gp, .int .i64 h.ln, .int .i64 h.rf, .int .i64 h.sp, .int .i64 h.pu, .int .i64 h.br, .int .i64 h.dr, .int .i64 h.lv, .int .i64 h.dO, .int .i64 h.ld, .int .i64 h.qu], .agg #[.int .i64 c.pos, .int .i64 c.vel, .int .i64 c.door], .int .i64 r] w (isAns w (Hs.askK h c r) (Hs.enV h c r)) := implEnergyOf_any h c r w
end Go.Proofs.Ytngdfckknkgdgaa
