/-
  The law's own copy of an event.
-/
import Derived.Test.YtbapfdoijjiomaaDoorEvt
namespace Go.Proofs.YtbapfdoijjiomaaDoor
open Go.RowKit Pl
set_option linter.unusedSimpArgs false
set_option linter.unusedVariables false

set_option maxRecDepth 20000 in
set_option maxHeartbeats 8000000 in
theorem toEvent_any (e : Ev) (w : World) :
    Calls Tryd.prog 12 #[.agg #[.int .i64 e.tk, .int .i64 e.kd, .int .i64 e.id, .int .i64 e.fl, .int .i64 e.tw]] w fun r w' => r = .returned (.agg #[.int .i64 e.tk, .int .i64 e.kd, .int .i64 e.id, .int .i64 e.fl, .int .i64 e.tw]) ∧ Below w.heap.size w w' := by
  go_enter Tryd.func12, Tryd.ntmps12
  go_wp2
  exact bodyPost_ret (v := .agg #[.int .i64 e.tk, .int .i64 e.kd, .int .i64 e.id, .int .i64 e.fl, .int .i64 e.tw]) (by simp [results, Tryd.results12, go_sem]) rfl ⟨rfl, by repeat (first | exact Below.refl _ _ | (refine Below.alloc ?_ ?_ _) | (refine Below.setCell ?_ ?_ _) | (simp; omega) | simp)⟩
end Go.Proofs.YtbapfdoijjiomaaDoor
