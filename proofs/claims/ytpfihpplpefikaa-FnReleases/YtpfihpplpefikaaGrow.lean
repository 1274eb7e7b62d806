/-
  The program's spans: one floor; a span that grows.
-/
import Derived.Test.YtpfihpplpefikaaCellsN
namespace Go.Proofs.Ytpfihpplpefikaa
open Go.RowKit Pl
set_option linter.unusedSimpArgs false
set_option linter.unusedVariables false

set_option maxRecDepth 20000 in
set_option maxHeartbeats 8000000 in
theorem oneFloor_any (f : Int) (w : World) :
    Calls Try.prog 65 #[.int .i64 f] w fun e w' => e = .returned (.agg #[.int .i64 f, .int .i64 f]) ∧ Below w.heap.size w w' := by
  go_enter Try.func65, Try.ntmps65
  go_wp2
  exact bodyPost_ret (v := .agg #[.int .i64 f, .int .i64 f]) (by simp [results, Try.results65, go_sem]) rfl ⟨rfl, by repeat (first | exact Below.refl _ _ | (refine Below.setCell ?_ ?_ _) | (refine Below.alloc ?_ ?_ _) | (simp; omega) | simp)⟩
def growS (x : Sp) (f : Int) : Sp := ⟨min x.lo f, max x.hi f⟩
set_option maxRecDepth 20000 in
set_option maxHeartbeats 8000000 in
theorem grown_any (x : Sp) (f : Int) (g : Sp) (hg : growS x f = g) (w : World) :
    Calls Try.prog 46 #[.agg #[.int .i64 x.lo, .int .i64 x.hi], .int .i64 f] w fun e w' => e = .returned (.agg #[.int .i64 g.lo, .int .i64 g.hi]) ∧ Below w.heap.size w w' := by
  have c : (f < x.lo ∧ x.hi < f) ∨ (f < x.lo ∧ f ≤ x.hi) ∨ (x.lo ≤ f ∧ x.hi < f) ∨ (x.lo ≤ f ∧ f ≤ x.hi) := by omega
  rcases c with ⟨c1, c2⟩ | ⟨c1, c2⟩ | ⟨c1, c2⟩ | ⟨c1, c2⟩
  · have e1 : g.lo = f := by rw [← hg]; show min x.lo f = f; omega
    have e2 : g.hi = f := by rw [← hg]; show max x.hi f = f; omega
    rw [e1, e2]
    clear e1 e2 hg
    go_enter Try.func46, Try.ntmps46
    go_wp2
    exact bodyPost_ret (v := .agg #[.int .i64 f, .int .i64 f]) (by simp [results, Try.results46, go_sem]) rfl ⟨rfl, by repeat (first | exact Below.refl _ _ | (refine Below.setCell ?_ ?_ _) | (refine Below.alloc ?_ ?_ _) | (simp; omega) | simp)⟩
  · have e1 : g.lo = f := by rw [← hg]; show min x.lo f = f; omega
    have e2 : g.hi = x.hi := by rw [← hg]; show max x.hi f = x.hi; omega
    rw [e1, e2]
    clear e1 e2 hg
    go_enter Try.func46, Try.ntmps46
    go_wp2
    exact bodyPost_ret (v := .agg #[.int .i64 f, .int .i64 x.hi]) (by simp [results, Try.results46, go_sem]) rfl ⟨rfl, by repeat (first | exact Below.refl _ _ | (refine Below.setCell ?_ ?_ _) | (refine Below.alloc ?_ ?_ _) | (simp; omega) | simp)⟩
  · have e1 : g.lo = x.lo := by rw [← hg]; show min x.lo f = x.lo; omega
    have e2 : g.hi = f := by rw [← hg]; show max x.hi f = f; omega
    rw [e1, e2]
    clear e1 e2 hg
    go_enter Try.func46, Try.ntmps46
    go_wp2
    exact bodyPost_ret (v := .agg #[.int .i64 x.lo, .int .i64 f]) (by simp [results, Try.results46, go_sem]) rfl ⟨rfl, by repeat (first | exact Below.refl _ _ | (refine Below.setCell ?_ ?_ _) | (refine Below.alloc ?_ ?_ _) | (simp; omega) | simp)⟩
  · have e1 : g.lo = x.lo := by rw [← hg]; show min x.lo f = x.lo; omega
    have e2 : g.hi = x.hi := by rw [← hg]; show max x.hi f = x.hi; omega
    rw [e1, e2]
    clear e1 e2 hg
    go_enter Try.func46, Try.ntmps46
    go_wp2
    exact bodyPost_ret (v := .agg #[.int .i64 x.lo, .int .i64 x.hi]) (by simp [results, Try.results46, go_sem]) rfl ⟨rfl, by repeat (first | exact Below.refl _ _ | (refine Below.setCell ?_ ?_ _) | (refine Below.alloc ?_ ?_ _) | (simp; omega) | simp)⟩
end Go.Proofs.Ytpfihpplpefikaa
