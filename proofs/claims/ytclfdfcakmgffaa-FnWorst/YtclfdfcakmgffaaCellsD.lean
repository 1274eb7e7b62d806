/-
  A result of 7 cells: not filled yet, filled, stored whole.
-/
import Derived.Test.YtclfdfcakmgffaaFnd
namespace Go.Proofs.Ytclfdfcakmgffaa
open Go.RowKit Pl

structure RPair (w : World) (b : Nat) : Prop where
  c0 : w.cell? ⟨b, 0, none⟩ = some (.int .i64 0)
  c1 : w.cell? ⟨b, 1, none⟩ = some (.int .i64 0)
  c2 : w.cell? ⟨b, 2, none⟩ = some (.bool false)
  c3 : w.cell? ⟨b, 3, none⟩ = some (.bool false)
  c4 : w.cell? ⟨b, 4, none⟩ = some (.int .i64 0)
  c5 : w.cell? ⟨b, 5, none⟩ = some (.bool false)
  c6 : w.cell? ⟨b, 6, none⟩ = some (.bool false)
  f0 : w.frozen? ⟨b, 0, none⟩ = false
  f1 : w.frozen? ⟨b, 1, none⟩ = false
  f2 : w.frozen? ⟨b, 2, none⟩ = false
  f3 : w.frozen? ⟨b, 3, none⟩ = false
  f4 : w.frozen? ⟨b, 4, none⟩ = false
  f5 : w.frozen? ⟨b, 5, none⟩ = false
  f6 : w.frozen? ⟨b, 6, none⟩ = false
theorem RPair.lt {w : World} {b : Nat} (a : RPair w b) : b < w.heap.size := World.block_lt_of_cell? w _ a.c0
theorem RPair.at_ (w : World) (T : TypeId) (b : Nat) (hb : b = w.heap.size) : RPair (w.alloc (.cells #[.int .i64 0, .int .i64 0, .bool false, .bool false, .int .i64 0, .bool false, .bool false] T)) b := by
  subst hb
  constructor <;> simp
theorem RPair.below {W w : World} {b B : Nat} (a : RPair W b) (hb : Below B W w) (hB : b < B) : RPair w b :=
  ⟨(hb.cell (p := ⟨b, 0, none⟩) hB).trans a.c0, (hb.cell (p := ⟨b, 1, none⟩) hB).trans a.c1, (hb.cell (p := ⟨b, 2, none⟩) hB).trans a.c2, (hb.cell (p := ⟨b, 3, none⟩) hB).trans a.c3, (hb.cell (p := ⟨b, 4, none⟩) hB).trans a.c4, (hb.cell (p := ⟨b, 5, none⟩) hB).trans a.c5, (hb.cell (p := ⟨b, 6, none⟩) hB).trans a.c6, (hb.frozen (p := ⟨b, 0, none⟩) hB).trans a.f0, (hb.frozen (p := ⟨b, 1, none⟩) hB).trans a.f1, (hb.frozen (p := ⟨b, 2, none⟩) hB).trans a.f2, (hb.frozen (p := ⟨b, 3, none⟩) hB).trans a.f3, (hb.frozen (p := ⟨b, 4, none⟩) hB).trans a.f4, (hb.frozen (p := ⟨b, 5, none⟩) hB).trans a.f5, (hb.frozen (p := ⟨b, 6, none⟩) hB).trans a.f6⟩
theorem RPair.alloc {W : World} {b : Nat} (a : RPair W b) (o : Obj) : RPair (W.alloc o) b := a.below ((Below.refl _ _).alloc (Nat.le_refl _) o) a.lt
theorem RPair.other {W : World} {b kb o : Nat} {u : Value} (a : RPair W b) (hne : b ≠ kb) : RPair (W.setCell ⟨kb, o, none⟩ u) b :=
  ⟨(cellS hne).trans a.c0, (cellS hne).trans a.c1, (cellS hne).trans a.c2, (cellS hne).trans a.c3, (cellS hne).trans a.c4, (cellS hne).trans a.c5, (cellS hne).trans a.c6, (World.frozen?_setCell _ _ _ _).trans a.f0, (World.frozen?_setCell _ _ _ _).trans a.f1, (World.frozen?_setCell _ _ _ _).trans a.f2, (World.frozen?_setCell _ _ _ _).trans a.f3, (World.frozen?_setCell _ _ _ _).trans a.f4, (World.frozen?_setCell _ _ _ _).trans a.f5, (World.frozen?_setCell _ _ _ _).trans a.f6⟩
structure VPair (w : World) (b : Nat) (k : Int) (x y : Cm) : Prop where
  c0 : w.cell? ⟨b, 0, none⟩ = some (.int .i64 k)
  c1 : w.cell? ⟨b, 1, none⟩ = some (.int .i64 x.push)
  c2 : w.cell? ⟨b, 2, none⟩ = some (.bool x.brk)
  c3 : w.cell? ⟨b, 3, none⟩ = some (.bool x.opn)
  c4 : w.cell? ⟨b, 4, none⟩ = some (.int .i64 y.push)
  c5 : w.cell? ⟨b, 5, none⟩ = some (.bool y.brk)
  c6 : w.cell? ⟨b, 6, none⟩ = some (.bool y.opn)
theorem VPair.lt {w : World} {b : Nat} {k : Int} {x y : Cm} (a : VPair w b k x y) : b < w.heap.size := World.block_lt_of_cell? w _ a.c0
theorem VPair.at_ (w : World) (k : Int) (x y : Cm) (T : TypeId) (b : Nat) (hb : b = w.heap.size) : VPair (w.alloc (.cells #[.int .i64 k, .int .i64 x.push, .bool x.brk, .bool x.opn, .int .i64 y.push, .bool y.brk, .bool y.opn] T)) b k x y := by
  subst hb
  constructor <;> simp
theorem VPair.below {W w : World} {b B : Nat} {k : Int} {x y : Cm} (a : VPair W b k x y) (hb : Below B W w) (hB : b < B) : VPair w b k x y :=
  ⟨(hb.cell (p := ⟨b, 0, none⟩) hB).trans a.c0, (hb.cell (p := ⟨b, 1, none⟩) hB).trans a.c1, (hb.cell (p := ⟨b, 2, none⟩) hB).trans a.c2, (hb.cell (p := ⟨b, 3, none⟩) hB).trans a.c3, (hb.cell (p := ⟨b, 4, none⟩) hB).trans a.c4, (hb.cell (p := ⟨b, 5, none⟩) hB).trans a.c5, (hb.cell (p := ⟨b, 6, none⟩) hB).trans a.c6⟩
theorem VPair.alloc {W : World} {b : Nat} {k : Int} {x y : Cm} (a : VPair W b k x y) (o : Obj) : VPair (W.alloc o) b k x y := a.below ((Below.refl _ _).alloc (Nat.le_refl _) o) a.lt
theorem VPair.other {W : World} {b kb o : Nat} {u : Value} {k : Int} {x y : Cm} (a : VPair W b k x y) (hne : b ≠ kb) : VPair (W.setCell ⟨kb, o, none⟩ u) b k x y :=
  ⟨(cellS hne).trans a.c0, (cellS hne).trans a.c1, (cellS hne).trans a.c2, (cellS hne).trans a.c3, (cellS hne).trans a.c4, (cellS hne).trans a.c5, (cellS hne).trans a.c6⟩
def putPair (W : World) (b : Nat) (k : Int) (x y : Cm) : World := (((((((W.setCell ⟨b, 0, none⟩ (.int .i64 k)).setCell ⟨b, 1, none⟩ (.int .i64 x.push)).setCell ⟨b, 2, none⟩ (.bool x.brk)).setCell ⟨b, 3, none⟩ (.bool x.opn)).setCell ⟨b, 4, none⟩ (.int .i64 y.push)).setCell ⟨b, 5, none⟩ (.bool y.brk)).setCell ⟨b, 6, none⟩ (.bool y.opn))
theorem RPair.put {W : World} {b : Nat} (a : RPair W b) (k : Int) (x y : Cm) : VPair (putPair W b k x y) b k x y :=
  ⟨((World.cell?_setCell_other _ _ _ _ (by simp)).trans (((World.cell?_setCell_other _ _ _ _ (by simp)).trans (((World.cell?_setCell_other _ _ _ _ (by simp)).trans (((World.cell?_setCell_other _ _ _ _ (by simp)).trans (((World.cell?_setCell_other _ _ _ _ (by simp)).trans (((World.cell?_setCell_other _ _ _ _ (by simp)).trans ((World.cell?_setCell_same _ _ _ (a.c0)))))))))))))), ((World.cell?_setCell_other _ _ _ _ (by simp)).trans (((World.cell?_setCell_other _ _ _ _ (by simp)).trans (((World.cell?_setCell_other _ _ _ _ (by simp)).trans (((World.cell?_setCell_other _ _ _ _ (by simp)).trans (((World.cell?_setCell_other _ _ _ _ (by simp)).trans ((World.cell?_setCell_same _ _ _ (((World.cell?_setCell_other _ _ _ _ (by simp)).trans (a.c1)))))))))))))), ((World.cell?_setCell_other _ _ _ _ (by simp)).trans (((World.cell?_setCell_other _ _ _ _ (by simp)).trans (((World.cell?_setCell_other _ _ _ _ (by simp)).trans (((World.cell?_setCell_other _ _ _ _ (by simp)).trans ((World.cell?_setCell_same _ _ _ (((World.cell?_setCell_other _ _ _ _ (by simp)).trans (((World.cell?_setCell_other _ _ _ _ (by simp)).trans (a.c2)))))))))))))), ((World.cell?_setCell_other _ _ _ _ (by simp)).trans (((World.cell?_setCell_other _ _ _ _ (by simp)).trans (((World.cell?_setCell_other _ _ _ _ (by simp)).trans ((World.cell?_setCell_same _ _ _ (((World.cell?_setCell_other _ _ _ _ (by simp)).trans (((World.cell?_setCell_other _ _ _ _ (by simp)).trans (((World.cell?_setCell_other _ _ _ _ (by simp)).trans (a.c3)))))))))))))), ((World.cell?_setCell_other _ _ _ _ (by simp)).trans (((World.cell?_setCell_other _ _ _ _ (by simp)).trans ((World.cell?_setCell_same _ _ _ (((World.cell?_setCell_other _ _ _ _ (by simp)).trans (((World.cell?_setCell_other _ _ _ _ (by simp)).trans (((World.cell?_setCell_other _ _ _ _ (by simp)).trans (((World.cell?_setCell_other _ _ _ _ (by simp)).trans (a.c4)))))))))))))), ((World.cell?_setCell_other _ _ _ _ (by simp)).trans ((World.cell?_setCell_same _ _ _ (((World.cell?_setCell_other _ _ _ _ (by simp)).trans (((World.cell?_setCell_other _ _ _ _ (by simp)).trans (((World.cell?_setCell_other _ _ _ _ (by simp)).trans (((World.cell?_setCell_other _ _ _ _ (by simp)).trans (((World.cell?_setCell_other _ _ _ _ (by simp)).trans (a.c5)))))))))))))), (World.cell?_setCell_same _ _ _ (((World.cell?_setCell_other _ _ _ _ (by simp)).trans (((World.cell?_setCell_other _ _ _ _ (by simp)).trans (((World.cell?_setCell_other _ _ _ _ (by simp)).trans (((World.cell?_setCell_other _ _ _ _ (by simp)).trans (((World.cell?_setCell_other _ _ _ _ (by simp)).trans (((World.cell?_setCell_other _ _ _ _ (by simp)).trans (a.c6))))))))))))))⟩
theorem below_putPair {B : Nat} {w W : World} (h : Below B w W) {b : Nat} (hb : B ≤ b) (k : Int) (x y : Cm) : Below B w (putPair W b k x y) := (((((((h.setCell hb _).setCell hb _).setCell hb _).setCell hb _).setCell hb _).setCell hb _).setCell hb _)
end Go.Proofs.Ytclfdfcakmgffaa
