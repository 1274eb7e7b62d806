/-
  The model's RunTo, its run.
-/
import Derived.Test.YthfnphbgjfcdaaaProfR
import Derived.Deep.DeepCutAuto
namespace Go.Proofs.Ythfnphbgjfcdaaa
open Go.RowKit Pl
set_option linter.unusedSimpArgs false
set_option linter.unusedVariables false

end Go.Proofs.Ythfnphbgjfcdaaa
