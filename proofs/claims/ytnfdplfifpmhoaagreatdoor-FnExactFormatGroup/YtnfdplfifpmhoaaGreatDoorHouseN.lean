/-
  The model's house: the bounds of a run and of a service.
-/
import Derived.Test.YtnfdplfifpmhoaaGreatDoorHouseL
import Derived.Test.YtnfdplfifpmhoaaGreatDoorFnd
namespace Go.Proofs.YtnfdplfifpmhoaaGreatDoor
open Go.RowKit Pl

theorem specLow_below (h : Hs) (o : h.Ok) (w : World) :
    Calls Tryz.prog 51 #[.agg #[.int .i64 h.fl, .int .i64 h.gp, .int .i64 h.ln, .int .i64 h.rf, .int .i64 h.sp, .int .i64 h.pu, .int .i64 h.br, .int .i64 h.dr, .int .i64 h.lv, .int .i64 h.dO, .int .i64 h.ld, .int .i64 h.qu]] w fun e w' => e = .returned (.int .i64 h.low) ∧ Below w.heap.size w w' :=
  (specLow_any h o w).mono fun e w' ⟨he, k, hw⟩ => ⟨he, by rw [hw]; repeat (first | exact Below.refl _ _ | apply Below.drew | apply below_drewN | (refine Below.alloc ?_ ?_ _) | (simp; omega) | simp)⟩
theorem specHigh_below (h : Hs) (o : h.Ok) (w : World) :
    Calls Tryz.prog 50 #[.agg #[.int .i64 h.fl, .int .i64 h.gp, .int .i64 h.ln, .int .i64 h.rf, .int .i64 h.sp, .int .i64 h.pu, .int .i64 h.br, .int .i64 h.dr, .int .i64 h.lv, .int .i64 h.dO, .int .i64 h.ld, .int .i64 h.qu]] w fun e w' => e = .returned (.int .i64 h.high) ∧ Below w.heap.size w w' :=
  (specHigh_any h o w).mono fun e w' ⟨he, k, hw⟩ => ⟨he, by rw [hw]; repeat (first | exact Below.refl _ _ | apply Below.drew | apply below_drewN | (refine Below.alloc ?_ ?_ _) | (simp; omega) | simp)⟩

end Go.Proofs.YtnfdplfifpmhoaaGreatDoor
