/-
  The model's house: the nearest floor.
-/
import Derived.Test.YtnfdplfifpmhoaaGreatDoorHouseL
namespace Go.Proofs.YtnfdplfifpmhoaaGreatDoor
open Go.RowKit Pl

theorem specLevel_below (h : Hs) (o : h.Ok) (f : Int) (f1 : -1 ≤ f) (f2 : f ≤ 12) (w : World) :
    Calls Tryz.prog 73 #[.agg #[.int .i64 h.fl, .int .i64 h.gp, .int .i64 h.ln, .int .i64 h.rf, .int .i64 h.sp, .int .i64 h.pu, .int .i64 h.br, .int .i64 h.dr, .int .i64 h.lv, .int .i64 h.dO, .int .i64 h.ld, .int .i64 h.qu], .int .i64 f] w fun e w' => e = .returned (.int .i64 (h.level f)) ∧ Below w.heap.size w w' :=
  (specLevel_any h o f f1 f2 w).mono fun e w' ⟨he, hw⟩ => ⟨he, by rw [hw]; exact (Below.refl _ _).alloc (Nat.le_refl _) _⟩

end Go.Proofs.YtnfdplfifpmhoaaGreatDoor
