/-
  Two answers of the guard that are the same.
-/
import Derived.Test.YtkiohienbchffaaGuardD
import Derived.Test.YtkiohienbchffaaCarT
namespace Go.Proofs.Ytkiohienbchffaa
open Go.RowKit Pl
set_option linter.unusedSimpArgs false
set_option linter.unusedVariables false

set_option maxHeartbeats 2000000 in
theorem eqCmd_g (x : Cm) (w : World) :
    Calls Try.prog 44 #[.agg #[.int .i64 x.push, .bool x.brk, .bool x.opn], .agg #[.int .i64 x.push, .bool x.brk, .bool x.opn]] w fun e w' => e = .returned (.bool true) ∧ Below w.heap.size w w' := by
  go_enter Try.func44, Try.ntmps44
  go_wp2
  go_ret
  exact ⟨rfl, by repeat (first | exact Below.refl _ _ | (refine Below.alloc ?_ ?_ _) | (simp; omega) | simp)⟩
theorem VPair.out7 {w : World} {b : Nat} {k : Int} {x y : Cm} (a : VPair w b k x y) : w.cell? ⟨b, 0, none⟩ = some (.int .i64 k) ∧ w.cell? ⟨b, 1, none⟩ = some (.int .i64 x.push) ∧ w.cell? ⟨b, 2, none⟩ = some (.bool x.brk) ∧ w.cell? ⟨b, 3, none⟩ = some (.bool x.opn) ∧ w.cell? ⟨b, 4, none⟩ = some (.int .i64 y.push) ∧ w.cell? ⟨b, 5, none⟩ = some (.bool y.brk) ∧ w.cell? ⟨b, 6, none⟩ = some (.bool y.opn) := ⟨a.c0, a.c1, a.c2, a.c3, a.c4, a.c5, a.c6⟩
set_option maxRecDepth 20000 in
set_option maxHeartbeats 4000000 in
theorem eqPairResult_same (k : Int) (x y : Cm) (w : World) :
    Calls Try.prog 24 #[.agg #[.int .i64 k, .int .i64 x.push, .bool x.brk, .bool x.opn, .int .i64 y.push, .bool y.brk, .bool y.opn], .agg #[.int .i64 k, .int .i64 x.push, .bool x.brk, .bool x.opn, .int .i64 y.push, .bool y.brk, .bool y.opn]] w fun e w' => e = .returned (.bool true) ∧ Below w.heap.size w w' := by
  have F0 : Hid (VPair ((w.alloc (.cells #[.int .i64 k, .int .i64 x.push, .bool x.brk, .bool x.opn, .int .i64 y.push, .bool y.brk, .bool y.opn] 35)).alloc (.cells #[.int .i64 k, .int .i64 x.push, .bool x.brk, .bool x.opn, .int .i64 y.push, .bool y.brk, .bool y.opn] 35)) w.heap.size k x y) := (VPair.at_ w k x y _ _ rfl).alloc _
  have F1 : Hid (VPair ((w.alloc (.cells #[.int .i64 k, .int .i64 x.push, .bool x.brk, .bool x.opn, .int .i64 y.push, .bool y.brk, .bool y.opn] 35)).alloc (.cells #[.int .i64 k, .int .i64 x.push, .bool x.brk, .bool x.opn, .int .i64 y.push, .bool y.brk, .bool y.opn] 35)) (w.heap.size + 1) k x y) := VPair.at_ _ k x y _ _ (by simp)
  have FB : Hid (Below w.heap.size w ((w.alloc (.cells #[.int .i64 k, .int .i64 x.push, .bool x.brk, .bool x.opn, .int .i64 y.push, .bool y.brk, .bool y.opn] 35)).alloc (.cells #[.int .i64 k, .int .i64 x.push, .bool x.brk, .bool x.opn, .int .i64 y.push, .bool y.brk, .bool y.opn] 35))) := ((Below.refl _ _).alloc (Nat.le_refl _) _).alloc (by simp) _
  go_enter Try.func24, Try.ntmps24
  go_wp2_with (go_at_call 44; refine (eqCmd_g _ _).mono ?_; rintro e w1 ⟨rfl, hb⟩; have F0 : Hid (VPair w1 w.heap.size k x y) := F0.out.below hb F0.out.lt; have F1 : Hid (VPair w1 (w.heap.size + 1) k x y) := F1.out.below hb F1.out.lt; have FB : Hid (Below w.heap.size w w1) := FB.out.trans (hb.mono FB.out.size); clear hb; obtain ⟨x0_0, x0_1, x0_2, x0_3, x0_4, x0_5, x0_6⟩ := F0.out.out7; obtain ⟨x1_0, x1_1, x1_2, x1_3, x1_4, x1_5, x1_6⟩ := F1.out.out7)
  go_ret
  exact ⟨rfl, FB.out⟩
end Go.Proofs.Ytkiohienbchffaa
