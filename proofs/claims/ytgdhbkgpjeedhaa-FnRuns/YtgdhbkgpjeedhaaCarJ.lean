/-
  The program's car: how high and how low it comes.
-/
import Derived.Test.YtgdhbkgpjeedhaaCarI
namespace Go.Proofs.Ytgdhbkgpjeedhaa
open Go.RowKit Pl
set_option linter.unusedSimpArgs false
set_option linter.unusedVariables false

theorem stopP_zero0 (b : Int) : stopP 0 b = 0 := by unfold stopP; simp

end Go.Proofs.Ytgdhbkgpjeedhaa
