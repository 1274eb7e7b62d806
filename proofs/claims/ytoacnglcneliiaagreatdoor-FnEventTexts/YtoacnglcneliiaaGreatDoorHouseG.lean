/-
  The program's hasPlace: is that a floor or a refuge?
-/
import Derived.Test.YtoacnglcneliiaaGreatDoorHouseJ
namespace Go.Proofs.YtoacnglcneliiaaGreatDoor
open Go.RowKit Pl
set_option linter.unusedSimpArgs false
set_option linter.unusedVariables false

set_option maxHeartbeats 1000000 in
theorem isFloor_any (h : Hs) (f : Int) (f1 : 2 ≤ h.fl) (f2 : h.fl ≤ 12) (w : World) :
    Calls Tryz.prog 75 #[.agg #[.int .i64 h.fl, .int .i64 h.gp, .int .i64 h.ln, .int .i64 h.rf, .int .i64 h.sp, .int .i64 h.pu, .int .i64 h.br, .int .i64 h.dr, .int .i64 h.lv, .int .i64 h.dO, .int .i64 h.ld, .int .i64 h.qu], .int .i64 f] w fun e w' => e = .returned (.bool (inB f 0 (h.fl - 1))) ∧ Below w.heap.size w w' := by
  have HB : Hid (Below w.heap.size w (w.alloc (.cells #[.int .i64 h.fl, .int .i64 h.gp, .int .i64 h.ln, .int .i64 h.rf, .int .i64 h.sp, .int .i64 h.pu, .int .i64 h.br, .int .i64 h.dr, .int .i64 h.lv, .int .i64 h.dO, .int .i64 h.ld, .int .i64 h.qu] 25))) := (Below.refl _ _).alloc (Nat.le_refl _) _
  have en : IntKind.i64.wrap (h.fl - 1) = h.fl - 1 := IntWalk.i64_in _ (by omega)
  go_enter Tryz.func75, Tryz.ntmps75
  go_wp2_with (go_at_call 74; refine (isWithin_any _ _ _ _).mono ?_; rintro e w' ⟨rfl, hw⟩; obtain rfl := hw.symm; clear hw)
  go_ret
  exact ⟨rfl, HB.out⟩
end Go.Proofs.YtoacnglcneliiaaGreatDoor
