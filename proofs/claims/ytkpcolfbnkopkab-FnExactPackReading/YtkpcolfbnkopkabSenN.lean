/-
  The law's readings: copied, compared.
-/
import Derived.Test.YtkpcolfbnkopkabSenM
import Derived.Test.YtkpcolfbnkopkabFnd
namespace Go.Proofs.Ytkpcolfbnkopkab
open Go.RowKit Pl
set_option linter.unusedSimpArgs false
set_option linter.unusedVariables false

/-- A reading. -/
structure Pl.Rd where
  pos : Int
  vel : Int
set_option maxRecDepth 20000 in
set_option maxHeartbeats 8000000 in
theorem toReading_any (p v : Int) (w : World) :
    Calls Try.prog 19 #[.agg #[.int .i64 p, .int .i64 v]] w fun e w' => e = .returned (.agg #[.int .i64 p, .int .i64 v]) ∧ Below w.heap.size w w' := by
  go_enter Try.func19, Try.ntmps19
  go_wp2
  exact bodyPost_ret (v := .agg #[.int .i64 p, .int .i64 v]) (by simp [results, Try.results19, go_sem]) rfl ⟨rfl, by repeat (first | exact Below.refl _ _ | (refine Below.alloc ?_ ?_ _) | (refine Below.setCell ?_ ?_ _) | (simp; omega) | simp)⟩
set_option maxRecDepth 20000 in
set_option maxHeartbeats 8000000 in
theorem eqReading_same (p v : Int) (w : World) :
    Calls Try.prog 39 #[.agg #[.int .i64 p, .int .i64 v], .agg #[.int .i64 p, .int .i64 v]] w fun e w' => e = .returned (.bool true) ∧ Below w.heap.size w w' := by
  go_enter Try.func39, Try.ntmps39
  go_wp2
  go_ret
  exact ⟨rfl, by repeat (first | exact Below.refl _ _ | (refine Below.alloc ?_ ?_ _) | (refine Below.setCell ?_ ?_ _) | (simp; omega) | simp)⟩
set_option maxRecDepth 20000 in
set_option maxHeartbeats 8000000 in
theorem eqReadingResult_same (k p v : Int) (w : World) :
    Calls Try.prog 23 #[.agg #[.int .i64 k, .int .i64 p, .int .i64 v], .agg #[.int .i64 k, .int .i64 p, .int .i64 v]] w fun e w' => e = .returned (.bool true) ∧ Below w.heap.size w w' := by
  have FB : Hid (Below w.heap.size w ((w.alloc (.cells #[.int .i64 k, .int .i64 p, .int .i64 v] 41)).alloc (.cells #[.int .i64 k, .int .i64 p, .int .i64 v] 41))) := ((Below.refl _ _).alloc (Nat.le_refl _) _).alloc (by simp) _
  go_enter Try.func23, Try.ntmps23
  go_wp2_with (go_at_call 39; refine (eqReading_same p v _).mono ?_; rintro e w1 ⟨rfl, hb⟩; have FB : Hid (Below w.heap.size w w1) := FB.out.trans (hb.mono (by simp <;> omega)); clear hb)
  go_ret
  exact ⟨rfl, FB.out⟩
end Go.Proofs.Ytkpcolfbnkopkab
