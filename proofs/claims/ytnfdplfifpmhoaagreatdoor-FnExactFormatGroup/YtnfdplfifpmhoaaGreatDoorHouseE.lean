/-
  The model's answers over a house: the code of the fault, or a number.
-/
import Derived.Test.YtnfdplfifpmhoaaGreatDoorHouseF
import Derived.Test.YtnfdplfifpmhoaaGreatDoorHouseN
namespace Go.Proofs.YtnfdplfifpmhoaaGreatDoor
open Go.RowKit Pl

/-- A result that is not filled yet lies in the block b, and may be written. -/
structure RAt (w : World) (b : Nat) : Prop where
  c0 : w.cell? ⟨b, 0, none⟩ = some (.int .i64 0)
  c1 : w.cell? ⟨b, 1, none⟩ = some (.int .i64 0)
  f0 : w.frozen? ⟨b, 0, none⟩ = false
  f1 : w.frozen? ⟨b, 1, none⟩ = false
theorem RAt.new (w : World) (T : TypeId) (b : Nat) (hb : b = w.heap.size) : RAt (w.alloc (.cells #[.int .i64 0, .int .i64 0] T)) b := by
  subst hb
  constructor <;> simp
theorem RAt.lt {w : World} {b : Nat} (a : RAt w b) : b < w.heap.size := World.block_lt_of_cell? w _ a.c0
theorem RAt.below {W w : World} {b B : Nat} (a : RAt W b) (hb : Below B W w) (hB : b < B) : RAt w b :=
  ⟨(hb.cell (p := ⟨b, 0, none⟩) hB).trans a.c0, (hb.cell (p := ⟨b, 1, none⟩) hB).trans a.c1, (hb.frozen (p := ⟨b, 0, none⟩) hB).trans a.f0, (hb.frozen (p := ⟨b, 1, none⟩) hB).trans a.f1⟩

/-- A code and a value are answered, and nothing that was there has turned. -/
def isAns (w : World) (c v : Int) (e : Ending) (w' : World) : Prop :=
  e = .returned (.agg #[.int .i64 c, .int .i64 v]) ∧ Below w.heap.size w w'

theorem specRange_below (h : Hs) (w : World) :
    Calls Tryz.prog 45 #[.agg #[.int .i64 h.fl, .int .i64 h.gp, .int .i64 h.ln, .int .i64 h.rf, .int .i64 h.sp, .int .i64 h.pu, .int .i64 h.br, .int .i64 h.dr, .int .i64 h.lv, .int .i64 h.dO, .int .i64 h.ld, .int .i64 h.qu]] w fun e w' => e = .returned (.bool h.rangeB) ∧ Below w.heap.size w w' :=
  (specRange_any h w).mono fun e w' ⟨he, hw⟩ => ⟨he, by rw [hw]; exact (Below.refl _ _).alloc (Nat.le_refl _) _⟩
theorem specApart_below (h : Hs) (o : h.Ok) (w : World) :
    Calls Tryz.prog 46 #[.agg #[.int .i64 h.fl, .int .i64 h.gp, .int .i64 h.ln, .int .i64 h.rf, .int .i64 h.sp, .int .i64 h.pu, .int .i64 h.br, .int .i64 h.dr, .int .i64 h.lv, .int .i64 h.dO, .int .i64 h.ld, .int .i64 h.qu]] w fun e w' => e = .returned (.int .i64 h.apart) ∧ Below w.heap.size w w' :=
  (specApart_any h o w).mono fun _ _ ⟨he, _, hw⟩ => ⟨he, below_of_drawn hw ((Below.refl _ _).alloc (Nat.le_refl _) _)⟩

end Go.Proofs.YtnfdplfifpmhoaaGreatDoor
