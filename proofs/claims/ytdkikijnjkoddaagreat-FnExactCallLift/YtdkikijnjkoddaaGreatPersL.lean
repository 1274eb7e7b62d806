/-
  The model's ledger: NeedOf.
-/
import Derived.Test.YtdkikijnjkoddaaGreatPdf
namespace Go.Proofs.YtdkikijnjkoddaaGreat
open Go.RowKit Pl
set_option linter.unusedSimpArgs false
set_option linter.unusedVariables false

end Go.Proofs.YtdkikijnjkoddaaGreat
