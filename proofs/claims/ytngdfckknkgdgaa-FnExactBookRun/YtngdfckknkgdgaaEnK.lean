/-
  Books: answers that are the same.
-/
import Derived.Test.YtngdfckknkgdgaaEnC
import Derived.Test.YtngdfckknkgdgaaCarT
import Derived.Test.YtngdfckknkgdgaaCellsB
namespace Go.Proofs.Ytngdfckknkgdgaa
open Go.RowKit Pl
set_option linter.unusedSimpArgs false
set_option linter.unusedVariables false

set_option maxHeartbeats 4000000 in
theorem eqBook_same (R : Bks) (w : World) :
    Calls Try.prog 24 #[.agg #[.int .i64 R.k, .int .i64 R.b.i, .int .i64 R.b.o, .int .i64 R.b.l, .int .i64 R.c.pos, .int .i64 R.c.vel, .int .i64 R.c.door], .agg #[.int .i64 R.k, .int .i64 R.b.i, .int .i64 R.b.o, .int .i64 R.b.l, .int .i64 R.c.pos, .int .i64 R.c.vel, .int .i64 R.c.door]] w fun e w' => e = .returned (.bool true) ∧ Below w.heap.size w w' := by
  have FB : Hid (Below w.heap.size w ((w.alloc (.cells #[.int .i64 R.k, .int .i64 R.b.i, .int .i64 R.b.o, .int .i64 R.b.l, .int .i64 R.c.pos, .int .i64 R.c.vel, .int .i64 R.c.door] 40)).alloc (.cells #[.int .i64 R.k, .int .i64 R.b.i, .int .i64 R.b.o, .int .i64 R.b.l, .int .i64 R.c.pos, .int .i64 R.c.vel, .int .i64 R.c.door] 40))) := ((Below.refl _ _).alloc (Nat.le_refl _) _).alloc (by simp) _
  go_enter Try.func24, Try.ntmps24
  go_wp2_with (go_at_call 51; refine (eqCar_same R.c _).mono ?_; rintro e w1 ⟨rfl, hb⟩; have FB : Hid (Below w.heap.size w w1) := FB.out.trans (hb.mono FB.out.size); clear hb)
  go_ret
  exact ⟨rfl, FB.out⟩
end Go.Proofs.Ytngdfckknkgdgaa
