/-
  The model's guard: may a pair go; the faults of what is asked.
-/
import Derived.Test.YtkiohienbchffabGuardA
import Derived.Test.YtkiohienbchffabCarU
import Derived.Deep.DeepCutAuto
namespace Go.Proofs.Ytkiohienbchffab
open Go.RowKit Pl
set_option linter.unusedSimpArgs false
set_option linter.unusedVariables false

theorem pair_zero {h : Hs} {s : Sh} {a b : Cm} (e : Hs.pairK h s a b = 0) : h.shaft s = 0 ∧ h.cmd a = 0 ∧ h.cmd b = 0 := by
  unfold Hs.pairK at e
  split at e
  · split at e
    · exact ⟨by assumption, by assumption, e⟩
    · exact absurd e (by assumption)
  · exact absurd e (by assumption)
end Go.Proofs.Ytkiohienbchffab
