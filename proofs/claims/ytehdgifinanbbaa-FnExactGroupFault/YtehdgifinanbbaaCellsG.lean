/-
  A result of 3 cells: not filled yet, filled, stored whole.
-/
import Derived.Test.YtehdgifinanbbaaCellsP
namespace Go.Proofs.Ytehdgifinanbbaa
open Go.RowKit Pl

structure RGls (w : World) (b : Nat) : Prop where
  c0 : w.cell? ⟨b, 0, none⟩ = some (.int .i64 0)
  c1 : w.cell? ⟨b, 1, none⟩ = some (.int .i64 0)
  c2 : w.cell? ⟨b, 2, none⟩ = some (.int .i64 0)
  f0 : w.frozen? ⟨b, 0, none⟩ = false
  f1 : w.frozen? ⟨b, 1, none⟩ = false
  f2 : w.frozen? ⟨b, 2, none⟩ = false
theorem RGls.lt {w : World} {b : Nat} (a : RGls w b) : b < w.heap.size := World.block_lt_of_cell? w _ a.c0
theorem RGls.at_ (w : World) (T : TypeId) (b : Nat) (hb : b = w.heap.size) : RGls (w.alloc (.cells #[.int .i64 0, .int .i64 0, .int .i64 0] T)) b := by
  subst hb
  constructor <;> simp
theorem RGls.below {W w : World} {b B : Nat} (a : RGls W b) (hb : Below B W w) (hB : b < B) : RGls w b :=
  ⟨(hb.cell (p := ⟨b, 0, none⟩) hB).trans a.c0, (hb.cell (p := ⟨b, 1, none⟩) hB).trans a.c1, (hb.cell (p := ⟨b, 2, none⟩) hB).trans a.c2, (hb.frozen (p := ⟨b, 0, none⟩) hB).trans a.f0, (hb.frozen (p := ⟨b, 1, none⟩) hB).trans a.f1, (hb.frozen (p := ⟨b, 2, none⟩) hB).trans a.f2⟩
theorem RGls.alloc {W : World} {b : Nat} (a : RGls W b) (o : Obj) : RGls (W.alloc o) b := a.below ((Below.refl _ _).alloc (Nat.le_refl _) o) a.lt
theorem RGls.other {W : World} {b kb o : Nat} {u : Value} (a : RGls W b) (hne : b ≠ kb) : RGls (W.setCell ⟨kb, o, none⟩ u) b :=
  ⟨(cellS hne).trans a.c0, (cellS hne).trans a.c1, (cellS hne).trans a.c2, (World.frozen?_setCell _ _ _ _).trans a.f0, (World.frozen?_setCell _ _ _ _).trans a.f1, (World.frozen?_setCell _ _ _ _).trans a.f2⟩
structure VGls (w : World) (b : Nat) (k p q : Int) : Prop where
  c0 : w.cell? ⟨b, 0, none⟩ = some (.int .i64 k)
  c1 : w.cell? ⟨b, 1, none⟩ = some (.int .i64 p)
  c2 : w.cell? ⟨b, 2, none⟩ = some (.int .i64 q)
theorem VGls.lt {w : World} {b : Nat} {k p q : Int} (a : VGls w b k p q) : b < w.heap.size := World.block_lt_of_cell? w _ a.c0
theorem VGls.at_ (w : World) (k p q : Int) (T : TypeId) (b : Nat) (hb : b = w.heap.size) : VGls (w.alloc (.cells #[.int .i64 k, .int .i64 p, .int .i64 q] T)) b k p q := by
  subst hb
  constructor <;> simp
theorem VGls.below {W w : World} {b B : Nat} {k p q : Int} (a : VGls W b k p q) (hb : Below B W w) (hB : b < B) : VGls w b k p q :=
  ⟨(hb.cell (p := ⟨b, 0, none⟩) hB).trans a.c0, (hb.cell (p := ⟨b, 1, none⟩) hB).trans a.c1, (hb.cell (p := ⟨b, 2, none⟩) hB).trans a.c2⟩
theorem VGls.alloc {W : World} {b : Nat} {k p q : Int} (a : VGls W b k p q) (o : Obj) : VGls (W.alloc o) b k p q := a.below ((Below.refl _ _).alloc (Nat.le_refl _) o) a.lt
theorem VGls.other {W : World} {b kb o : Nat} {u : Value} {k p q : Int} (a : VGls W b k p q) (hne : b ≠ kb) : VGls (W.setCell ⟨kb, o, none⟩ u) b k p q :=
  ⟨(cellS hne).trans a.c0, (cellS hne).trans a.c1, (cellS hne).trans a.c2⟩
def putGls (W : World) (b : Nat) (k p q : Int) : World := (((W.setCell ⟨b, 0, none⟩ (.int .i64 k)).setCell ⟨b, 1, none⟩ (.int .i64 p)).setCell ⟨b, 2, none⟩ (.int .i64 q))
theorem RGls.put {W : World} {b : Nat} (a : RGls W b) (k p q : Int) : VGls (putGls W b k p q) b k p q :=
  ⟨((World.cell?_setCell_other _ _ _ _ (by simp)).trans (((World.cell?_setCell_other _ _ _ _ (by simp)).trans ((World.cell?_setCell_same _ _ _ (a.c0)))))), ((World.cell?_setCell_other _ _ _ _ (by simp)).trans ((World.cell?_setCell_same _ _ _ (((World.cell?_setCell_other _ _ _ _ (by simp)).trans (a.c1)))))), (World.cell?_setCell_same _ _ _ (((World.cell?_setCell_other _ _ _ _ (by simp)).trans (((World.cell?_setCell_other _ _ _ _ (by simp)).trans (a.c2))))))⟩
theorem below_putGls {B : Nat} {w W : World} (h : Below B w W) {b : Nat} (hb : B ≤ b) (k p q : Int) : Below B w (putGls W b k p q) := (((h.setCell hb _).setCell hb _).setCell hb _)
end Go.Proofs.Ytehdgifinanbbaa
