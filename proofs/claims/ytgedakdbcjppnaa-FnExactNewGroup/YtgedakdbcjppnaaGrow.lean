/-
  The program's spans: one floor; a span that grows.
-/
import Derived.Test.YtgedakdbcjppnaaCellsN
namespace Go.Proofs.Ytgedakdbcjppnaa
open Go.RowKit Pl
set_option linter.unusedSimpArgs false
set_option linter.unusedVariables false

set_option maxRecDepth 20000 in
set_option maxHeartbeats 8000000 in
theorem oneFloor_any (f : Int) (w : World) :
    Calls Try.prog 29 #[.int .i64 f] w fun e w' => e = .returned (.agg #[.int .i64 f, .int .i64 f]) ∧ Below w.heap.size w w' := by
  go_enter Try.func29, Try.ntmps29
  go_wp2
  exact bodyPost_ret (v := .agg #[.int .i64 f, .int .i64 f]) (by simp [results, Try.results29, go_sem]) rfl ⟨rfl, by repeat (first | exact Below.refl _ _ | (refine Below.setCell ?_ ?_ _) | (refine Below.alloc ?_ ?_ _) | (simp; omega) | simp)⟩
def growS (x : Sp) (f : Int) : Sp := ⟨min x.lo f, max x.hi f⟩
end Go.Proofs.Ytgedakdbcjppnaa
