/-
  A result of 5 cells: not filled yet, filled, stored whole.
-/
import Derived.Test.YtgdhbkgpjeedhaaFnd
namespace Go.Proofs.Ytgdhbkgpjeedhaa
open Go.RowKit Pl

structure RRun (w : World) (b : Nat) : Prop where
  c0 : w.cell? ⟨b, 0, none⟩ = some (.int .i64 0)
  c1 : w.cell? ⟨b, 1, none⟩ = some (.int .i64 0)
  c2 : w.cell? ⟨b, 2, none⟩ = some (.int .i64 0)
  c3 : w.cell? ⟨b, 3, none⟩ = some (.int .i64 0)
  c4 : w.cell? ⟨b, 4, none⟩ = some (.int .i64 0)
  f0 : w.frozen? ⟨b, 0, none⟩ = false
  f1 : w.frozen? ⟨b, 1, none⟩ = false
  f2 : w.frozen? ⟨b, 2, none⟩ = false
  f3 : w.frozen? ⟨b, 3, none⟩ = false
  f4 : w.frozen? ⟨b, 4, none⟩ = false
theorem RRun.lt {w : World} {b : Nat} (a : RRun w b) : b < w.heap.size := World.block_lt_of_cell? w _ a.c0
theorem RRun.at_ (w : World) (T : TypeId) (b : Nat) (hb : b = w.heap.size) : RRun (w.alloc (.cells #[.int .i64 0, .int .i64 0, .int .i64 0, .int .i64 0, .int .i64 0] T)) b := by
  subst hb
  constructor <;> simp
theorem RRun.below {W w : World} {b B : Nat} (a : RRun W b) (hb : Below B W w) (hB : b < B) : RRun w b :=
  ⟨(hb.cell (p := ⟨b, 0, none⟩) hB).trans a.c0, (hb.cell (p := ⟨b, 1, none⟩) hB).trans a.c1, (hb.cell (p := ⟨b, 2, none⟩) hB).trans a.c2, (hb.cell (p := ⟨b, 3, none⟩) hB).trans a.c3, (hb.cell (p := ⟨b, 4, none⟩) hB).trans a.c4, (hb.frozen (p := ⟨b, 0, none⟩) hB).trans a.f0, (hb.frozen (p := ⟨b, 1, none⟩) hB).trans a.f1, (hb.frozen (p := ⟨b, 2, none⟩) hB).trans a.f2, (hb.frozen (p := ⟨b, 3, none⟩) hB).trans a.f3, (hb.frozen (p := ⟨b, 4, none⟩) hB).trans a.f4⟩
theorem RRun.alloc {W : World} {b : Nat} (a : RRun W b) (o : Obj) : RRun (W.alloc o) b := a.below ((Below.refl _ _).alloc (Nat.le_refl _) o) a.lt
theorem RRun.other {W : World} {b kb o : Nat} {u : Value} (a : RRun W b) (hne : b ≠ kb) : RRun (W.setCell ⟨kb, o, none⟩ u) b :=
  ⟨(cellS hne).trans a.c0, (cellS hne).trans a.c1, (cellS hne).trans a.c2, (cellS hne).trans a.c3, (cellS hne).trans a.c4, (World.frozen?_setCell _ _ _ _).trans a.f0, (World.frozen?_setCell _ _ _ _).trans a.f1, (World.frozen?_setCell _ _ _ _).trans a.f2, (World.frozen?_setCell _ _ _ _).trans a.f3, (World.frozen?_setCell _ _ _ _).trans a.f4⟩
structure VRun (w : World) (b : Nat) (k n : Int) (c : Cs) : Prop where
  c0 : w.cell? ⟨b, 0, none⟩ = some (.int .i64 k)
  c1 : w.cell? ⟨b, 1, none⟩ = some (.int .i64 n)
  c2 : w.cell? ⟨b, 2, none⟩ = some (.int .i64 c.pos)
  c3 : w.cell? ⟨b, 3, none⟩ = some (.int .i64 c.vel)
  c4 : w.cell? ⟨b, 4, none⟩ = some (.int .i64 c.door)
theorem VRun.lt {w : World} {b : Nat} {k n : Int} {c : Cs} (a : VRun w b k n c) : b < w.heap.size := World.block_lt_of_cell? w _ a.c0
theorem VRun.at_ (w : World) (k n : Int) (c : Cs) (T : TypeId) (b : Nat) (hb : b = w.heap.size) : VRun (w.alloc (.cells #[.int .i64 k, .int .i64 n, .int .i64 c.pos, .int .i64 c.vel, .int .i64 c.door] T)) b k n c := by
  subst hb
  constructor <;> simp
theorem VRun.below {W w : World} {b B : Nat} {k n : Int} {c : Cs} (a : VRun W b k n c) (hb : Below B W w) (hB : b < B) : VRun w b k n c :=
  ⟨(hb.cell (p := ⟨b, 0, none⟩) hB).trans a.c0, (hb.cell (p := ⟨b, 1, none⟩) hB).trans a.c1, (hb.cell (p := ⟨b, 2, none⟩) hB).trans a.c2, (hb.cell (p := ⟨b, 3, none⟩) hB).trans a.c3, (hb.cell (p := ⟨b, 4, none⟩) hB).trans a.c4⟩
theorem VRun.alloc {W : World} {b : Nat} {k n : Int} {c : Cs} (a : VRun W b k n c) (o : Obj) : VRun (W.alloc o) b k n c := a.below ((Below.refl _ _).alloc (Nat.le_refl _) o) a.lt
theorem VRun.other {W : World} {b kb o : Nat} {u : Value} {k n : Int} {c : Cs} (a : VRun W b k n c) (hne : b ≠ kb) : VRun (W.setCell ⟨kb, o, none⟩ u) b k n c :=
  ⟨(cellS hne).trans a.c0, (cellS hne).trans a.c1, (cellS hne).trans a.c2, (cellS hne).trans a.c3, (cellS hne).trans a.c4⟩
def putRun (W : World) (b : Nat) (k n : Int) (c : Cs) : World := (((((W.setCell ⟨b, 0, none⟩ (.int .i64 k)).setCell ⟨b, 1, none⟩ (.int .i64 n)).setCell ⟨b, 2, none⟩ (.int .i64 c.pos)).setCell ⟨b, 3, none⟩ (.int .i64 c.vel)).setCell ⟨b, 4, none⟩ (.int .i64 c.door))
theorem RRun.put {W : World} {b : Nat} (a : RRun W b) (k n : Int) (c : Cs) : VRun (putRun W b k n c) b k n c :=
  ⟨((World.cell?_setCell_other _ _ _ _ (by simp)).trans (((World.cell?_setCell_other _ _ _ _ (by simp)).trans (((World.cell?_setCell_other _ _ _ _ (by simp)).trans (((World.cell?_setCell_other _ _ _ _ (by simp)).trans ((World.cell?_setCell_same _ _ _ (a.c0)))))))))), ((World.cell?_setCell_other _ _ _ _ (by simp)).trans (((World.cell?_setCell_other _ _ _ _ (by simp)).trans (((World.cell?_setCell_other _ _ _ _ (by simp)).trans ((World.cell?_setCell_same _ _ _ (((World.cell?_setCell_other _ _ _ _ (by simp)).trans (a.c1)))))))))), ((World.cell?_setCell_other _ _ _ _ (by simp)).trans (((World.cell?_setCell_other _ _ _ _ (by simp)).trans ((World.cell?_setCell_same _ _ _ (((World.cell?_setCell_other _ _ _ _ (by simp)).trans (((World.cell?_setCell_other _ _ _ _ (by simp)).trans (a.c2)))))))))), ((World.cell?_setCell_other _ _ _ _ (by simp)).trans ((World.cell?_setCell_same _ _ _ (((World.cell?_setCell_other _ _ _ _ (by simp)).trans (((World.cell?_setCell_other _ _ _ _ (by simp)).trans (((World.cell?_setCell_other _ _ _ _ (by simp)).trans (a.c3)))))))))), (World.cell?_setCell_same _ _ _ (((World.cell?_setCell_other _ _ _ _ (by simp)).trans (((World.cell?_setCell_other _ _ _ _ (by simp)).trans (((World.cell?_setCell_other _ _ _ _ (by simp)).trans (((World.cell?_setCell_other _ _ _ _ (by simp)).trans (a.c4))))))))))⟩
theorem below_putRun {B : Nat} {w W : World} (h : Below B w W) {b : Nat} (hb : B ≤ b) (k n : Int) (c : Cs) : Below B w (putRun W b k n c) := (((((h.setCell hb _).setCell hb _).setCell hb _).setCell hb _).setCell hb _)
/-- A car, stored whole. -/
def putC (W : World) (b : Nat) (c : Cs) : World := ((W.setCell ⟨b, 0, none⟩ (.int .i64 c.pos)).setCell ⟨b, 1, none⟩ (.int .i64 c.vel)).setCell ⟨b, 2, none⟩ (.int .i64 c.door)
theorem CW.putC {W : World} {b : Nat} {c : Cs} (a : CW W b c) (g : Cs) : CW (putC W b g) b g := ((a.set_pos g.pos).set_vel g.vel).set_door g.door
theorem RRun.putC_other {W : World} {b kb : Nat} (a : RRun W b) (hne : b ≠ kb) (g : Cs) : RRun (putC W kb g) b := ((a.other hne).other hne).other hne
theorem below_putC {B : Nat} {w W : World} (h : Below B w W) {b : Nat} (hb : B ≤ b) (c : Cs) : Below B w (putC W b c) := (((h.setCell hb _).setCell hb _).setCell hb _)
end Go.Proofs.Ytgdhbkgpjeedhaa
