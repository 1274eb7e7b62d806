/-
  A result of 3 cells: not filled yet, filled, stored whole.
-/
import Derived.Test.YtgdhbkgpjeedhaaFnd
namespace Go.Proofs.Ytgdhbkgpjeedhaa
open Go.RowKit Pl

structure RCmd (w : World) (b : Nat) : Prop where
  c0 : w.cell? ⟨b, 0, none⟩ = some (.int .i64 0)
  c1 : w.cell? ⟨b, 1, none⟩ = some (.bool false)
  c2 : w.cell? ⟨b, 2, none⟩ = some (.bool false)
  f0 : w.frozen? ⟨b, 0, none⟩ = false
  f1 : w.frozen? ⟨b, 1, none⟩ = false
  f2 : w.frozen? ⟨b, 2, none⟩ = false
theorem RCmd.lt {w : World} {b : Nat} (a : RCmd w b) : b < w.heap.size := World.block_lt_of_cell? w _ a.c0
theorem RCmd.at_ (w : World) (T : TypeId) (b : Nat) (hb : b = w.heap.size) : RCmd (w.alloc (.cells #[.int .i64 0, .bool false, .bool false] T)) b := by
  subst hb
  constructor <;> simp
theorem RCmd.below {W w : World} {b B : Nat} (a : RCmd W b) (hb : Below B W w) (hB : b < B) : RCmd w b :=
  ⟨(hb.cell (p := ⟨b, 0, none⟩) hB).trans a.c0, (hb.cell (p := ⟨b, 1, none⟩) hB).trans a.c1, (hb.cell (p := ⟨b, 2, none⟩) hB).trans a.c2, (hb.frozen (p := ⟨b, 0, none⟩) hB).trans a.f0, (hb.frozen (p := ⟨b, 1, none⟩) hB).trans a.f1, (hb.frozen (p := ⟨b, 2, none⟩) hB).trans a.f2⟩
theorem RCmd.alloc {W : World} {b : Nat} (a : RCmd W b) (o : Obj) : RCmd (W.alloc o) b := a.below ((Below.refl _ _).alloc (Nat.le_refl _) o) a.lt
theorem RCmd.other {W : World} {b kb o : Nat} {u : Value} (a : RCmd W b) (hne : b ≠ kb) : RCmd (W.setCell ⟨kb, o, none⟩ u) b :=
  ⟨(cellS hne).trans a.c0, (cellS hne).trans a.c1, (cellS hne).trans a.c2, (World.frozen?_setCell _ _ _ _).trans a.f0, (World.frozen?_setCell _ _ _ _).trans a.f1, (World.frozen?_setCell _ _ _ _).trans a.f2⟩
structure VCmd (w : World) (b : Nat) (x : Cm) : Prop where
  c0 : w.cell? ⟨b, 0, none⟩ = some (.int .i64 x.push)
  c1 : w.cell? ⟨b, 1, none⟩ = some (.bool x.brk)
  c2 : w.cell? ⟨b, 2, none⟩ = some (.bool x.opn)
theorem VCmd.lt {w : World} {b : Nat} {x : Cm} (a : VCmd w b x) : b < w.heap.size := World.block_lt_of_cell? w _ a.c0
theorem VCmd.at_ (w : World) (x : Cm) (T : TypeId) (b : Nat) (hb : b = w.heap.size) : VCmd (w.alloc (.cells #[.int .i64 x.push, .bool x.brk, .bool x.opn] T)) b x := by
  subst hb
  constructor <;> simp
theorem VCmd.below {W w : World} {b B : Nat} {x : Cm} (a : VCmd W b x) (hb : Below B W w) (hB : b < B) : VCmd w b x :=
  ⟨(hb.cell (p := ⟨b, 0, none⟩) hB).trans a.c0, (hb.cell (p := ⟨b, 1, none⟩) hB).trans a.c1, (hb.cell (p := ⟨b, 2, none⟩) hB).trans a.c2⟩
theorem VCmd.alloc {W : World} {b : Nat} {x : Cm} (a : VCmd W b x) (o : Obj) : VCmd (W.alloc o) b x := a.below ((Below.refl _ _).alloc (Nat.le_refl _) o) a.lt
theorem VCmd.other {W : World} {b kb o : Nat} {u : Value} {x : Cm} (a : VCmd W b x) (hne : b ≠ kb) : VCmd (W.setCell ⟨kb, o, none⟩ u) b x :=
  ⟨(cellS hne).trans a.c0, (cellS hne).trans a.c1, (cellS hne).trans a.c2⟩
def putCmd (W : World) (b : Nat) (x : Cm) : World := (((W.setCell ⟨b, 0, none⟩ (.int .i64 x.push)).setCell ⟨b, 1, none⟩ (.bool x.brk)).setCell ⟨b, 2, none⟩ (.bool x.opn))
theorem RCmd.put {W : World} {b : Nat} (a : RCmd W b) (x : Cm) : VCmd (putCmd W b x) b x :=
  ⟨((World.cell?_setCell_other _ _ _ _ (by simp)).trans (((World.cell?_setCell_other _ _ _ _ (by simp)).trans ((World.cell?_setCell_same _ _ _ (a.c0)))))), ((World.cell?_setCell_other _ _ _ _ (by simp)).trans ((World.cell?_setCell_same _ _ _ (((World.cell?_setCell_other _ _ _ _ (by simp)).trans (a.c1)))))), (World.cell?_setCell_same _ _ _ (((World.cell?_setCell_other _ _ _ _ (by simp)).trans (((World.cell?_setCell_other _ _ _ _ (by simp)).trans (a.c2))))))⟩
theorem below_putCmd {B : Nat} {w W : World} (h : Below B w W) {b : Nat} (hb : B ≤ b) (x : Cm) : Below B w (putCmd W b x) := (((h.setCell hb _).setCell hb _).setCell hb _)
end Go.Proofs.Ytgdhbkgpjeedhaa
