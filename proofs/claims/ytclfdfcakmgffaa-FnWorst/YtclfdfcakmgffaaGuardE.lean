/-
  Two answers of the guard that are the same.
-/
import Derived.Test.YtclfdfcakmgffaaGuardD
import Derived.Test.YtclfdfcakmgffaaCarT
namespace Go.Proofs.Ytclfdfcakmgffaa
open Go.RowKit Pl
set_option linter.unusedSimpArgs false
set_option linter.unusedVariables false

theorem VPair.out7 {w : World} {b : Nat} {k : Int} {x y : Cm} (a : VPair w b k x y) : w.cell? ⟨b, 0, none⟩ = some (.int .i64 k) ∧ w.cell? ⟨b, 1, none⟩ = some (.int .i64 x.push) ∧ w.cell? ⟨b, 2, none⟩ = some (.bool x.brk) ∧ w.cell? ⟨b, 3, none⟩ = some (.bool x.opn) ∧ w.cell? ⟨b, 4, none⟩ = some (.int .i64 y.push) ∧ w.cell? ⟨b, 5, none⟩ = some (.bool y.brk) ∧ w.cell? ⟨b, 6, none⟩ = some (.bool y.opn) := ⟨a.c0, a.c1, a.c2, a.c3, a.c4, a.c5, a.c6⟩
end Go.Proofs.Ytclfdfcakmgffaa
