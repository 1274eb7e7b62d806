/-
  The model's spans of the floors at which two cars are.
-/
import Derived.Test.YtfombjiocneadaaSpanC
namespace Go.Proofs.Ytfombjiocneadaa
open Go.RowKit Pl
set_option linter.unusedSimpArgs false
set_option linter.unusedVariables false

def Hs.sensV (h : Hs) (s : Sh) : Ss := if h.shaft s = 0 then Hs.sensed h s else ⟨⟨0, 0⟩, ⟨0, 0⟩⟩
end Go.Proofs.Ytfombjiocneadaa
