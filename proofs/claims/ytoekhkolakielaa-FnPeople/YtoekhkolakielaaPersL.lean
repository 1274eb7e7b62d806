/-
  The model's ledger: NeedOf.
-/
import Derived.Test.YtoekhkolakielaaPersKd
namespace Go.Proofs.Ytoekhkolakielaa
open Go.RowKit Pl
set_option linter.unusedSimpArgs false
set_option linter.unusedVariables false

def Hs.needK (h : Hs) (x : Lg) (sh ca : Int) : Int × Int × Int := if Hs.askd h x sh ca 0 = 0 then Hs.need h x.ps sh ca else (Hs.askd h x sh ca 0, 0, 0)
end Go.Proofs.Ytoekhkolakielaa
