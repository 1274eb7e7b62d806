/-
  The program's spans: one floor; a span that grows.
-/
import Derived.Test.YtfombjiocneadaaCellsN
namespace Go.Proofs.Ytfombjiocneadaa
open Go.RowKit Pl
set_option linter.unusedSimpArgs false
set_option linter.unusedVariables false

def growS (x : Sp) (f : Int) : Sp := ⟨min x.lo f, max x.hi f⟩
end Go.Proofs.Ytfombjiocneadaa
