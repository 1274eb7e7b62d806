/-
  HighOf, LowOf, FreshShaft: what the model and the program answer, at every argument.
-/
import Derived.Test.YtlncnfagamajiabCarL
import Derived.Test.YtlncnfagamajiabCellsP
namespace Go.Proofs.Ytlncnfagamajiab
open Go.RowKit Pl

def Hs.hiG (h : Hs) (c : Cs) : Int := if h.car c = 0 then h.hi c.pos c.vel else 0
def Hs.loG (h : Hs) (c : Cs) : Int := if h.car c = 0 then h.lo c.pos c.vel else 0
def Hs.freshG (h : Hs) : Sh := if h.fault = 0 then ⟨⟨0, 0, 0⟩, ⟨h.level (h.fl - 1), 0, 0⟩⟩ else ⟨⟨0, 0, 0⟩, ⟨0, 0, 0⟩⟩
theorem specFreshShaft_all (h : Hs) (w : World) : Calls Try.prog 11 #[.agg #[.int .i64 h.fl, .int .i64 h.gp, .int .i64 h.ln, .int .i64 h.rf, .int .i64 h.sp, .int .i64 h.pu, .int .i64 h.br, .int .i64 h.dr, .int .i64 h.lv, .int .i64 h.dO, .int .i64 h.ld, .int .i64 h.qu]] w (isShaft w h.fault (Hs.freshG h)) := by
  unfold Hs.freshG
  by_cases k : h.fault = 0
  · rw [if_pos k, k]; exact specFreshShaft_yes h k w
  · rw [if_neg k]; exact specFreshShaft_no h k w
theorem implFreshShaft_all (h : Hs) (w : World) : Calls Try.prog 12 #[.agg #[.int .i64 h.fl, .int .i64 h.gp, .int .i64 h.ln, .int .i64 h.rf, .int .i64 h.sp, .int .i64 h.pu, .int .i64 h.br, .int .i64 h.dr, .int .i64 h.lv, .int .i64 h.dO, .int .i64 h.ld, .int .i64 h.qu]] w (isShaft w h.fault (Hs.freshG h)) := by
  unfold Hs.freshG
  by_cases k : h.fault = 0
  · rw [if_pos k, k]; exact implFreshShaft_yes h k w
  · rw [if_neg k]; exact implFreshShaft_no h k w
end Go.Proofs.Ytlncnfagamajiab
