/-
  HighOf, LowOf, FreshShaft: what the model and the program answer, at every argument.
-/
import Derived.Test.YtegcacokgjonbaaCarL
import Derived.Test.YtegcacokgjonbaaCellsP
namespace Go.Proofs.Ytegcacokgjonbaa
open Go.RowKit Pl

def Hs.hiG (h : Hs) (c : Cs) : Int := if h.car c = 0 then h.hi c.pos c.vel else 0
def Hs.loG (h : Hs) (c : Cs) : Int := if h.car c = 0 then h.lo c.pos c.vel else 0
def Hs.freshG (h : Hs) : Sh := if h.fault = 0 then ⟨⟨0, 0, 0⟩, ⟨h.level (h.fl - 1), 0, 0⟩⟩ else ⟨⟨0, 0, 0⟩, ⟨0, 0, 0⟩⟩
theorem specHighOf_all (h : Hs) (c : Cs) (w : World) : Calls Try.prog 35 #[.agg #[.int .i64 h.fl, .int .i64 h.gp, .int .i64 h.ln, .int .i64 h.rf, .int .i64 h.sp, .int .i64 h.pu, .int .i64 h.br, .int .i64 h.dr, .int .i64 h.lv, .int .i64 h.dO, .int .i64 h.ld, .int .i64 h.qu], .agg #[.int .i64 c.pos, .int .i64 c.vel, .int .i64 c.door]] w (isAns w (h.car c) (Hs.hiG h c)) := by
  unfold Hs.hiG
  by_cases k : h.car c = 0
  · rw [if_pos k, k]; exact specHighOf_yes h c k w
  · rw [if_neg k]; exact specHighOf_no h c k w
theorem implHighOf_all (h : Hs) (c : Cs) (w : World) : Calls Try.prog 19 #[.agg #[.int .i64 h.fl, .int .i64 h.gp, .int .i64 h.ln, .int .i64 h.rf, .int .i64 h.sp, .int .i64 h.pu, .int .i64 h.br, .int .i64 h.dr, .int .i64 h.lv, .int .i64 h.dO, .int .i64 h.ld, .int .i64 h.qu], .agg #[.int .i64 c.pos, .int .i64 c.vel, .int .i64 c.door]] w (isAns w (h.car c) (Hs.hiG h c)) := by
  unfold Hs.hiG
  by_cases k : h.car c = 0
  · rw [if_pos k, k]; exact implHighOf_yes h c k w
  · rw [if_neg k]; exact implHighOf_no h c k w
theorem implLowOf_all (h : Hs) (c : Cs) (w : World) : Calls Try.prog 20 #[.agg #[.int .i64 h.fl, .int .i64 h.gp, .int .i64 h.ln, .int .i64 h.rf, .int .i64 h.sp, .int .i64 h.pu, .int .i64 h.br, .int .i64 h.dr, .int .i64 h.lv, .int .i64 h.dO, .int .i64 h.ld, .int .i64 h.qu], .agg #[.int .i64 c.pos, .int .i64 c.vel, .int .i64 c.door]] w (isAns w (h.car c) (Hs.loG h c)) := by
  unfold Hs.loG
  by_cases k : h.car c = 0
  · rw [if_pos k, k]; exact implLowOf_yes h c k w
  · rw [if_neg k]; exact implLowOf_no h c k w
theorem implFreshShaft_all (h : Hs) (w : World) : Calls Try.prog 27 #[.agg #[.int .i64 h.fl, .int .i64 h.gp, .int .i64 h.ln, .int .i64 h.rf, .int .i64 h.sp, .int .i64 h.pu, .int .i64 h.br, .int .i64 h.dr, .int .i64 h.lv, .int .i64 h.dO, .int .i64 h.ld, .int .i64 h.qu]] w (isShaft w h.fault (Hs.freshG h)) := by
  unfold Hs.freshG
  by_cases k : h.fault = 0
  · rw [if_pos k, k]; exact implFreshShaft_yes h k w
  · rw [if_neg k]; exact implFreshShaft_no h k w
end Go.Proofs.Ytegcacokgjonbaa
