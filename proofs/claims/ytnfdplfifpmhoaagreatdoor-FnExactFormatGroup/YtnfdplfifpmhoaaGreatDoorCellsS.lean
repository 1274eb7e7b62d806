/-
  A result of 5 cells: not filled yet, filled, stored whole.
-/
import Derived.Test.YtnfdplfifpmhoaaGreatDoorFnd
import Derived.Test.YtnfdplfifpmhoaaGreatDoorSpan
namespace Go.Proofs.YtnfdplfifpmhoaaGreatDoor
open Go.RowKit Pl

structure RSps (w : World) (b : Nat) : Prop where
  c0 : w.cell? ⟨b, 0, none⟩ = some (.int .i64 0)
  c1 : w.cell? ⟨b, 1, none⟩ = some (.int .i64 0)
  c2 : w.cell? ⟨b, 2, none⟩ = some (.int .i64 0)
  c3 : w.cell? ⟨b, 3, none⟩ = some (.int .i64 0)
  c4 : w.cell? ⟨b, 4, none⟩ = some (.int .i64 0)
  f0 : w.frozen? ⟨b, 0, none⟩ = false
  f1 : w.frozen? ⟨b, 1, none⟩ = false
  f2 : w.frozen? ⟨b, 2, none⟩ = false
  f3 : w.frozen? ⟨b, 3, none⟩ = false
  f4 : w.frozen? ⟨b, 4, none⟩ = false
theorem RSps.lt {w : World} {b : Nat} (a : RSps w b) : b < w.heap.size := World.block_lt_of_cell? w _ a.c0
theorem RSps.at_ (w : World) (T : TypeId) (b : Nat) (hb : b = w.heap.size) : RSps (w.alloc (.cells #[.int .i64 0, .int .i64 0, .int .i64 0, .int .i64 0, .int .i64 0] T)) b := by
  subst hb
  constructor <;> simp
theorem RSps.below {W w : World} {b B : Nat} (a : RSps W b) (hb : Below B W w) (hB : b < B) : RSps w b :=
  ⟨(hb.cell (p := ⟨b, 0, none⟩) hB).trans a.c0, (hb.cell (p := ⟨b, 1, none⟩) hB).trans a.c1, (hb.cell (p := ⟨b, 2, none⟩) hB).trans a.c2, (hb.cell (p := ⟨b, 3, none⟩) hB).trans a.c3, (hb.cell (p := ⟨b, 4, none⟩) hB).trans a.c4, (hb.frozen (p := ⟨b, 0, none⟩) hB).trans a.f0, (hb.frozen (p := ⟨b, 1, none⟩) hB).trans a.f1, (hb.frozen (p := ⟨b, 2, none⟩) hB).trans a.f2, (hb.frozen (p := ⟨b, 3, none⟩) hB).trans a.f3, (hb.frozen (p := ⟨b, 4, none⟩) hB).trans a.f4⟩
theorem RSps.alloc {W : World} {b : Nat} (a : RSps W b) (o : Obj) : RSps (W.alloc o) b := a.below ((Below.refl _ _).alloc (Nat.le_refl _) o) a.lt
theorem RSps.other {W : World} {b kb o : Nat} {u : Value} (a : RSps W b) (hne : b ≠ kb) : RSps (W.setCell ⟨kb, o, none⟩ u) b :=
  ⟨(cellS hne).trans a.c0, (cellS hne).trans a.c1, (cellS hne).trans a.c2, (cellS hne).trans a.c3, (cellS hne).trans a.c4, (World.frozen?_setCell _ _ _ _).trans a.f0, (World.frozen?_setCell _ _ _ _).trans a.f1, (World.frozen?_setCell _ _ _ _).trans a.f2, (World.frozen?_setCell _ _ _ _).trans a.f3, (World.frozen?_setCell _ _ _ _).trans a.f4⟩
structure VSps (w : World) (b : Nat) (k : Int) (x : Ss) : Prop where
  c0 : w.cell? ⟨b, 0, none⟩ = some (.int .i64 k)
  c1 : w.cell? ⟨b, 1, none⟩ = some (.int .i64 x.l.lo)
  c2 : w.cell? ⟨b, 2, none⟩ = some (.int .i64 x.l.hi)
  c3 : w.cell? ⟨b, 3, none⟩ = some (.int .i64 x.u.lo)
  c4 : w.cell? ⟨b, 4, none⟩ = some (.int .i64 x.u.hi)
theorem VSps.lt {w : World} {b : Nat} {k : Int} {x : Ss} (a : VSps w b k x) : b < w.heap.size := World.block_lt_of_cell? w _ a.c0
theorem VSps.at_ (w : World) (k : Int) (x : Ss) (T : TypeId) (b : Nat) (hb : b = w.heap.size) : VSps (w.alloc (.cells #[.int .i64 k, .int .i64 x.l.lo, .int .i64 x.l.hi, .int .i64 x.u.lo, .int .i64 x.u.hi] T)) b k x := by
  subst hb
  constructor <;> simp
theorem VSps.below {W w : World} {b B : Nat} {k : Int} {x : Ss} (a : VSps W b k x) (hb : Below B W w) (hB : b < B) : VSps w b k x :=
  ⟨(hb.cell (p := ⟨b, 0, none⟩) hB).trans a.c0, (hb.cell (p := ⟨b, 1, none⟩) hB).trans a.c1, (hb.cell (p := ⟨b, 2, none⟩) hB).trans a.c2, (hb.cell (p := ⟨b, 3, none⟩) hB).trans a.c3, (hb.cell (p := ⟨b, 4, none⟩) hB).trans a.c4⟩
theorem VSps.alloc {W : World} {b : Nat} {k : Int} {x : Ss} (a : VSps W b k x) (o : Obj) : VSps (W.alloc o) b k x := a.below ((Below.refl _ _).alloc (Nat.le_refl _) o) a.lt
theorem VSps.other {W : World} {b kb o : Nat} {u : Value} {k : Int} {x : Ss} (a : VSps W b k x) (hne : b ≠ kb) : VSps (W.setCell ⟨kb, o, none⟩ u) b k x :=
  ⟨(cellS hne).trans a.c0, (cellS hne).trans a.c1, (cellS hne).trans a.c2, (cellS hne).trans a.c3, (cellS hne).trans a.c4⟩
def putSps (W : World) (b : Nat) (k : Int) (x : Ss) : World := (((((W.setCell ⟨b, 0, none⟩ (.int .i64 k)).setCell ⟨b, 1, none⟩ (.int .i64 x.l.lo)).setCell ⟨b, 2, none⟩ (.int .i64 x.l.hi)).setCell ⟨b, 3, none⟩ (.int .i64 x.u.lo)).setCell ⟨b, 4, none⟩ (.int .i64 x.u.hi))
theorem RSps.put {W : World} {b : Nat} (a : RSps W b) (k : Int) (x : Ss) : VSps (putSps W b k x) b k x :=
  ⟨((World.cell?_setCell_other _ _ _ _ (by simp)).trans (((World.cell?_setCell_other _ _ _ _ (by simp)).trans (((World.cell?_setCell_other _ _ _ _ (by simp)).trans (((World.cell?_setCell_other _ _ _ _ (by simp)).trans ((World.cell?_setCell_same _ _ _ (a.c0)))))))))), ((World.cell?_setCell_other _ _ _ _ (by simp)).trans (((World.cell?_setCell_other _ _ _ _ (by simp)).trans (((World.cell?_setCell_other _ _ _ _ (by simp)).trans ((World.cell?_setCell_same _ _ _ (((World.cell?_setCell_other _ _ _ _ (by simp)).trans (a.c1)))))))))), ((World.cell?_setCell_other _ _ _ _ (by simp)).trans (((World.cell?_setCell_other _ _ _ _ (by simp)).trans ((World.cell?_setCell_same _ _ _ (((World.cell?_setCell_other _ _ _ _ (by simp)).trans (((World.cell?_setCell_other _ _ _ _ (by simp)).trans (a.c2)))))))))), ((World.cell?_setCell_other _ _ _ _ (by simp)).trans ((World.cell?_setCell_same _ _ _ (((World.cell?_setCell_other _ _ _ _ (by simp)).trans (((World.cell?_setCell_other _ _ _ _ (by simp)).trans (((World.cell?_setCell_other _ _ _ _ (by simp)).trans (a.c3)))))))))), (World.cell?_setCell_same _ _ _ (((World.cell?_setCell_other _ _ _ _ (by simp)).trans (((World.cell?_setCell_other _ _ _ _ (by simp)).trans (((World.cell?_setCell_other _ _ _ _ (by simp)).trans (((World.cell?_setCell_other _ _ _ _ (by simp)).trans (a.c4))))))))))⟩
theorem below_putSps {B : Nat} {w W : World} (h : Below B w W) {b : Nat} (hb : B ≤ b) (k : Int) (x : Ss) : Below B w (putSps W b k x) := (((((h.setCell hb _).setCell hb _).setCell hb _).setCell hb _).setCell hb _)
/-- Spans are answered, and nothing that was there has turned. -/
def isSps (w : World) (k : Int) (x : Ss) (e : Ending) (w' : World) : Prop := e = .returned (.agg #[.int .i64 k, .int .i64 x.l.lo, .int .i64 x.l.hi, .int .i64 x.u.lo, .int .i64 x.u.hi]) ∧ Below w.heap.size w w'
end Go.Proofs.YtnfdplfifpmhoaaGreatDoor
