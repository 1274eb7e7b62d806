/-
  The model's guard: the worst that a command may do.
-/
import Derived.Test.YtkiohienbchffabGuard
import Derived.Test.YtkiohienbchffabCellsP
import Derived.Test.YtkiohienbchffabCellsR
import Derived.Test.YtkiohienbchffabCellsX
namespace Go.Proofs.Ytkiohienbchffab
open Go.RowKit Pl
set_option linter.unusedSimpArgs false
set_option linter.unusedVariables false

theorem asked_zero {h : Hs} {c : Cs} {x : Cm} (e : Hs.asked h c x = 0) : h.car c = 0 ∧ h.cmd x = 0 := by
  unfold Hs.asked at e
  split at e
  · exact ⟨by assumption, e⟩
  · exact absurd e (by assumption)
def Hs.whV (h : Hs) (c : Cs) (x : Cm) : Int := if Hs.asked h c x = 0 then Hs.wh h c x else 0
def Hs.wlV (h : Hs) (c : Cs) (x : Cm) : Int := if Hs.asked h c x = 0 then Hs.wl h c x else 0
end Go.Proofs.Ytkiohienbchffab
