/-
  A result of 7 cells: not filled yet, filled, stored whole.
-/
import Derived.Test.YtngdfckknkgdgaaFnd
import Derived.Test.YtngdfckknkgdgaaEnP
namespace Go.Proofs.Ytngdfckknkgdgaa
open Go.RowKit Pl

structure RBk (w : World) (b : Nat) : Prop where
  c0 : w.cell? ⟨b, 0, none⟩ = some (.int .i64 0)
  c1 : w.cell? ⟨b, 1, none⟩ = some (.int .i64 0)
  c2 : w.cell? ⟨b, 2, none⟩ = some (.int .i64 0)
  c3 : w.cell? ⟨b, 3, none⟩ = some (.int .i64 0)
  c4 : w.cell? ⟨b, 4, none⟩ = some (.int .i64 0)
  c5 : w.cell? ⟨b, 5, none⟩ = some (.int .i64 0)
  c6 : w.cell? ⟨b, 6, none⟩ = some (.int .i64 0)
  f0 : w.frozen? ⟨b, 0, none⟩ = false
  f1 : w.frozen? ⟨b, 1, none⟩ = false
  f2 : w.frozen? ⟨b, 2, none⟩ = false
  f3 : w.frozen? ⟨b, 3, none⟩ = false
  f4 : w.frozen? ⟨b, 4, none⟩ = false
  f5 : w.frozen? ⟨b, 5, none⟩ = false
  f6 : w.frozen? ⟨b, 6, none⟩ = false
theorem RBk.lt {w : World} {b : Nat} (a : RBk w b) : b < w.heap.size := World.block_lt_of_cell? w _ a.c0
theorem RBk.at_ (w : World) (T : TypeId) (b : Nat) (hb : b = w.heap.size) : RBk (w.alloc (.cells #[.int .i64 0, .int .i64 0, .int .i64 0, .int .i64 0, .int .i64 0, .int .i64 0, .int .i64 0] T)) b := by
  subst hb
  constructor <;> simp
theorem RBk.below {W w : World} {b B : Nat} (a : RBk W b) (hb : Below B W w) (hB : b < B) : RBk w b :=
  ⟨(hb.cell (p := ⟨b, 0, none⟩) hB).trans a.c0, (hb.cell (p := ⟨b, 1, none⟩) hB).trans a.c1, (hb.cell (p := ⟨b, 2, none⟩) hB).trans a.c2, (hb.cell (p := ⟨b, 3, none⟩) hB).trans a.c3, (hb.cell (p := ⟨b, 4, none⟩) hB).trans a.c4, (hb.cell (p := ⟨b, 5, none⟩) hB).trans a.c5, (hb.cell (p := ⟨b, 6, none⟩) hB).trans a.c6, (hb.frozen (p := ⟨b, 0, none⟩) hB).trans a.f0, (hb.frozen (p := ⟨b, 1, none⟩) hB).trans a.f1, (hb.frozen (p := ⟨b, 2, none⟩) hB).trans a.f2, (hb.frozen (p := ⟨b, 3, none⟩) hB).trans a.f3, (hb.frozen (p := ⟨b, 4, none⟩) hB).trans a.f4, (hb.frozen (p := ⟨b, 5, none⟩) hB).trans a.f5, (hb.frozen (p := ⟨b, 6, none⟩) hB).trans a.f6⟩
theorem RBk.alloc {W : World} {b : Nat} (a : RBk W b) (o : Obj) : RBk (W.alloc o) b := a.below ((Below.refl _ _).alloc (Nat.le_refl _) o) a.lt
theorem RBk.other {W : World} {b kb o : Nat} {u : Value} (a : RBk W b) (hne : b ≠ kb) : RBk (W.setCell ⟨kb, o, none⟩ u) b :=
  ⟨(cellS hne).trans a.c0, (cellS hne).trans a.c1, (cellS hne).trans a.c2, (cellS hne).trans a.c3, (cellS hne).trans a.c4, (cellS hne).trans a.c5, (cellS hne).trans a.c6, (World.frozen?_setCell _ _ _ _).trans a.f0, (World.frozen?_setCell _ _ _ _).trans a.f1, (World.frozen?_setCell _ _ _ _).trans a.f2, (World.frozen?_setCell _ _ _ _).trans a.f3, (World.frozen?_setCell _ _ _ _).trans a.f4, (World.frozen?_setCell _ _ _ _).trans a.f5, (World.frozen?_setCell _ _ _ _).trans a.f6⟩
structure VBk (w : World) (b : Nat) (R : Bks) : Prop where
  c0 : w.cell? ⟨b, 0, none⟩ = some (.int .i64 R.k)
  c1 : w.cell? ⟨b, 1, none⟩ = some (.int .i64 R.b.i)
  c2 : w.cell? ⟨b, 2, none⟩ = some (.int .i64 R.b.o)
  c3 : w.cell? ⟨b, 3, none⟩ = some (.int .i64 R.b.l)
  c4 : w.cell? ⟨b, 4, none⟩ = some (.int .i64 R.c.pos)
  c5 : w.cell? ⟨b, 5, none⟩ = some (.int .i64 R.c.vel)
  c6 : w.cell? ⟨b, 6, none⟩ = some (.int .i64 R.c.door)
theorem VBk.lt {w : World} {b : Nat} {R : Bks} (a : VBk w b R) : b < w.heap.size := World.block_lt_of_cell? w _ a.c0
theorem VBk.at_ (w : World) (R : Bks) (T : TypeId) (b : Nat) (hb : b = w.heap.size) : VBk (w.alloc (.cells #[.int .i64 R.k, .int .i64 R.b.i, .int .i64 R.b.o, .int .i64 R.b.l, .int .i64 R.c.pos, .int .i64 R.c.vel, .int .i64 R.c.door] T)) b R := by
  subst hb
  constructor <;> simp
theorem VBk.below {W w : World} {b B : Nat} {R : Bks} (a : VBk W b R) (hb : Below B W w) (hB : b < B) : VBk w b R :=
  ⟨(hb.cell (p := ⟨b, 0, none⟩) hB).trans a.c0, (hb.cell (p := ⟨b, 1, none⟩) hB).trans a.c1, (hb.cell (p := ⟨b, 2, none⟩) hB).trans a.c2, (hb.cell (p := ⟨b, 3, none⟩) hB).trans a.c3, (hb.cell (p := ⟨b, 4, none⟩) hB).trans a.c4, (hb.cell (p := ⟨b, 5, none⟩) hB).trans a.c5, (hb.cell (p := ⟨b, 6, none⟩) hB).trans a.c6⟩
theorem VBk.alloc {W : World} {b : Nat} {R : Bks} (a : VBk W b R) (o : Obj) : VBk (W.alloc o) b R := a.below ((Below.refl _ _).alloc (Nat.le_refl _) o) a.lt
theorem VBk.other {W : World} {b kb o : Nat} {u : Value} {R : Bks} (a : VBk W b R) (hne : b ≠ kb) : VBk (W.setCell ⟨kb, o, none⟩ u) b R :=
  ⟨(cellS hne).trans a.c0, (cellS hne).trans a.c1, (cellS hne).trans a.c2, (cellS hne).trans a.c3, (cellS hne).trans a.c4, (cellS hne).trans a.c5, (cellS hne).trans a.c6⟩
def putBk (W : World) (b : Nat) (R : Bks) : World := (((((((W.setCell ⟨b, 0, none⟩ (.int .i64 R.k)).setCell ⟨b, 1, none⟩ (.int .i64 R.b.i)).setCell ⟨b, 2, none⟩ (.int .i64 R.b.o)).setCell ⟨b, 3, none⟩ (.int .i64 R.b.l)).setCell ⟨b, 4, none⟩ (.int .i64 R.c.pos)).setCell ⟨b, 5, none⟩ (.int .i64 R.c.vel)).setCell ⟨b, 6, none⟩ (.int .i64 R.c.door))
theorem RBk.put {W : World} {b : Nat} (a : RBk W b) (R : Bks) : VBk (putBk W b R) b R :=
  ⟨((World.cell?_setCell_other _ _ _ _ (by simp)).trans (((World.cell?_setCell_other _ _ _ _ (by simp)).trans (((World.cell?_setCell_other _ _ _ _ (by simp)).trans (((World.cell?_setCell_other _ _ _ _ (by simp)).trans (((World.cell?_setCell_other _ _ _ _ (by simp)).trans (((World.cell?_setCell_other _ _ _ _ (by simp)).trans ((World.cell?_setCell_same _ _ _ (a.c0)))))))))))))), ((World.cell?_setCell_other _ _ _ _ (by simp)).trans (((World.cell?_setCell_other _ _ _ _ (by simp)).trans (((World.cell?_setCell_other _ _ _ _ (by simp)).trans (((World.cell?_setCell_other _ _ _ _ (by simp)).trans (((World.cell?_setCell_other _ _ _ _ (by simp)).trans ((World.cell?_setCell_same _ _ _ (((World.cell?_setCell_other _ _ _ _ (by simp)).trans (a.c1)))))))))))))), ((World.cell?_setCell_other _ _ _ _ (by simp)).trans (((World.cell?_setCell_other _ _ _ _ (by simp)).trans (((World.cell?_setCell_other _ _ _ _ (by simp)).trans (((World.cell?_setCell_other _ _ _ _ (by simp)).trans ((World.cell?_setCell_same _ _ _ (((World.cell?_setCell_other _ _ _ _ (by simp)).trans (((World.cell?_setCell_other _ _ _ _ (by simp)).trans (a.c2)))))))))))))), ((World.cell?_setCell_other _ _ _ _ (by simp)).trans (((World.cell?_setCell_other _ _ _ _ (by simp)).trans (((World.cell?_setCell_other _ _ _ _ (by simp)).trans ((World.cell?_setCell_same _ _ _ (((World.cell?_setCell_other _ _ _ _ (by simp)).trans (((World.cell?_setCell_other _ _ _ _ (by simp)).trans (((World.cell?_setCell_other _ _ _ _ (by simp)).trans (a.c3)))))))))))))), ((World.cell?_setCell_other _ _ _ _ (by simp)).trans (((World.cell?_setCell_other _ _ _ _ (by simp)).trans ((World.cell?_setCell_same _ _ _ (((World.cell?_setCell_other _ _ _ _ (by simp)).trans (((World.cell?_setCell_other _ _ _ _ (by simp)).trans (((World.cell?_setCell_other _ _ _ _ (by simp)).trans (((World.cell?_setCell_other _ _ _ _ (by simp)).trans (a.c4)))))))))))))), ((World.cell?_setCell_other _ _ _ _ (by simp)).trans ((World.cell?_setCell_same _ _ _ (((World.cell?_setCell_other _ _ _ _ (by simp)).trans (((World.cell?_setCell_other _ _ _ _ (by simp)).trans (((World.cell?_setCell_other _ _ _ _ (by simp)).trans (((World.cell?_setCell_other _ _ _ _ (by simp)).trans (((World.cell?_setCell_other _ _ _ _ (by simp)).trans (a.c5)))))))))))))), (World.cell?_setCell_same _ _ _ (((World.cell?_setCell_other _ _ _ _ (by simp)).trans (((World.cell?_setCell_other _ _ _ _ (by simp)).trans (((World.cell?_setCell_other _ _ _ _ (by simp)).trans (((World.cell?_setCell_other _ _ _ _ (by simp)).trans (((World.cell?_setCell_other _ _ _ _ (by simp)).trans (((World.cell?_setCell_other _ _ _ _ (by simp)).trans (a.c6))))))))))))))⟩
theorem below_putBk {B : Nat} {w W : World} (h : Below B w W) {b : Nat} (hb : B ≤ b) (R : Bks) : Below B w (putBk W b R) := (((((((h.setCell hb _).setCell hb _).setCell hb _).setCell hb _).setCell hb _).setCell hb _).setCell hb _)
end Go.Proofs.Ytngdfckknkgdgaa
