/-
  Spans in blocks of their own, which may be written.
-/
import Derived.Test.YtnfdplfifpmhoaaGreatDoorSpan
import Derived.Test.YtnfdplfifpmhoaaGreatDoorFnd
namespace Go.Proofs.YtnfdplfifpmhoaaGreatDoor
open Go.RowKit Pl

/-- The cells of a block, written out. -/
structure MW (w : World) (b : Nat) (x : Sp) : Prop where
  c0 : w.cell? ⟨b, 0, none⟩ = some (.int .i64 x.lo)
  c1 : w.cell? ⟨b, 1, none⟩ = some (.int .i64 x.hi)
  f0 : w.frozen? ⟨b, 0, none⟩ = false
  f1 : w.frozen? ⟨b, 1, none⟩ = false
theorem MW.lt {w : World} {b : Nat} {x : Sp} (a : MW w b x) : b < w.heap.size := World.block_lt_of_cell? w _ a.c0
theorem MW.at_ (w : World) (x : Sp) (T : TypeId) (b : Nat) (hb : b = w.heap.size) : MW (w.alloc (.cells #[.int .i64 x.lo, .int .i64 x.hi] T)) b x := by
  subst hb
  constructor <;> simp
theorem MW.of {W w : World} {b : Nat} {x : Sp} (a : MW W b x) (hc : ∀ o, w.cell? ⟨b, o, none⟩ = W.cell? ⟨b, o, none⟩) (hf : ∀ o, w.frozen? ⟨b, o, none⟩ = W.frozen? ⟨b, o, none⟩) : MW w b x :=
  ⟨(hc 0).trans a.c0, (hc 1).trans a.c1, (hf 0).trans a.f0, (hf 1).trans a.f1⟩
theorem MW.below {W w : World} {b B : Nat} {x : Sp} (a : MW W b x) (hb : Below B W w) (hB : b < B) : MW w b x :=
  a.of (fun o => hb.cell (p := ⟨b, o, none⟩) hB) (fun o => hb.frozen (p := ⟨b, o, none⟩) hB)
theorem MW.alloc {W : World} {b : Nat} {x : Sp} (a : MW W b x) (o : Obj) : MW (W.alloc o) b x := a.below ((Below.refl _ _).alloc (Nat.le_refl _) o) a.lt
theorem MW.drew {W : World} {b : Nat} {x : Sp} (a : MW W b x) : MW W.drew b x := a.below (Below.refl W.heap.size W).drew a.lt
theorem MW.other {W : World} {b k o : Nat} {u : Value} {x : Sp} (a : MW W b x) (hne : b ≠ k) : MW (W.setCell ⟨k, o, none⟩ u) b x :=
  a.of (fun _ => World.cell?_setCell_other _ _ _ _ (fun e => hne (congrArg Addr.block e).symm)) (fun _ => World.frozen?_setCell _ _ _ _)
theorem MW.set0 {W : World} {b : Nat} {x : Sp} (a : MW W b x) (y : Int) : MW (W.setCell ⟨b, 0, none⟩ (.int .i64 y)) b (⟨y, x.hi⟩ : Sp) :=
  ⟨World.cell?_setCell_same _ _ _ a.c0, (World.cell?_setCell_other _ _ _ _ (by simp)).trans a.c1, (World.frozen?_setCell _ _ _ _).trans a.f0, (World.frozen?_setCell _ _ _ _).trans a.f1⟩
theorem MW.set1 {W : World} {b : Nat} {x : Sp} (a : MW W b x) (y : Int) : MW (W.setCell ⟨b, 1, none⟩ (.int .i64 y)) b (⟨x.lo, y⟩ : Sp) :=
  ⟨(World.cell?_setCell_other _ _ _ _ (by simp)).trans a.c0, World.cell?_setCell_same _ _ _ a.c1, (World.frozen?_setCell _ _ _ _).trans a.f0, (World.frozen?_setCell _ _ _ _).trans a.f1⟩
def putM (W : World) (b : Nat) (x : Sp) : World := ((W.setCell ⟨b, 0, none⟩ (.int .i64 x.lo)).setCell ⟨b, 1, none⟩ (.int .i64 x.hi))
theorem MW.put {W : World} {b : Nat} {x : Sp} (a : MW W b x) (y : Sp) : MW (putM W b y) b y := ((a.set0 y.lo).set1 y.hi)
theorem below_putM {B : Nat} {w W : World} (h : Below B w W) {b : Nat} (hb : B ≤ b) (x : Sp) : Below B w (putM W b x) := ((h.setCell hb _).setCell hb _)

/-- The cells of a block, written out. -/
structure NW (w : World) (b : Nat) (x : Ss) : Prop where
  c0 : w.cell? ⟨b, 0, none⟩ = some (.int .i64 x.l.lo)
  c1 : w.cell? ⟨b, 1, none⟩ = some (.int .i64 x.l.hi)
  c2 : w.cell? ⟨b, 2, none⟩ = some (.int .i64 x.u.lo)
  c3 : w.cell? ⟨b, 3, none⟩ = some (.int .i64 x.u.hi)
  f0 : w.frozen? ⟨b, 0, none⟩ = false
  f1 : w.frozen? ⟨b, 1, none⟩ = false
  f2 : w.frozen? ⟨b, 2, none⟩ = false
  f3 : w.frozen? ⟨b, 3, none⟩ = false
theorem NW.lt {w : World} {b : Nat} {x : Ss} (a : NW w b x) : b < w.heap.size := World.block_lt_of_cell? w _ a.c0
theorem NW.at_ (w : World) (x : Ss) (T : TypeId) (b : Nat) (hb : b = w.heap.size) : NW (w.alloc (.cells #[.int .i64 x.l.lo, .int .i64 x.l.hi, .int .i64 x.u.lo, .int .i64 x.u.hi] T)) b x := by
  subst hb
  constructor <;> simp
theorem NW.of {W w : World} {b : Nat} {x : Ss} (a : NW W b x) (hc : ∀ o, w.cell? ⟨b, o, none⟩ = W.cell? ⟨b, o, none⟩) (hf : ∀ o, w.frozen? ⟨b, o, none⟩ = W.frozen? ⟨b, o, none⟩) : NW w b x :=
  ⟨(hc 0).trans a.c0, (hc 1).trans a.c1, (hc 2).trans a.c2, (hc 3).trans a.c3, (hf 0).trans a.f0, (hf 1).trans a.f1, (hf 2).trans a.f2, (hf 3).trans a.f3⟩
theorem NW.below {W w : World} {b B : Nat} {x : Ss} (a : NW W b x) (hb : Below B W w) (hB : b < B) : NW w b x :=
  a.of (fun o => hb.cell (p := ⟨b, o, none⟩) hB) (fun o => hb.frozen (p := ⟨b, o, none⟩) hB)
theorem NW.alloc {W : World} {b : Nat} {x : Ss} (a : NW W b x) (o : Obj) : NW (W.alloc o) b x := a.below ((Below.refl _ _).alloc (Nat.le_refl _) o) a.lt
theorem NW.drew {W : World} {b : Nat} {x : Ss} (a : NW W b x) : NW W.drew b x := a.below (Below.refl W.heap.size W).drew a.lt
theorem NW.other {W : World} {b k o : Nat} {u : Value} {x : Ss} (a : NW W b x) (hne : b ≠ k) : NW (W.setCell ⟨k, o, none⟩ u) b x :=
  a.of (fun _ => World.cell?_setCell_other _ _ _ _ (fun e => hne (congrArg Addr.block e).symm)) (fun _ => World.frozen?_setCell _ _ _ _)
theorem NW.set0 {W : World} {b : Nat} {x : Ss} (a : NW W b x) (y : Int) : NW (W.setCell ⟨b, 0, none⟩ (.int .i64 y)) b (⟨⟨y, x.l.hi⟩, ⟨x.u.lo, x.u.hi⟩⟩ : Ss) :=
  ⟨World.cell?_setCell_same _ _ _ a.c0, (World.cell?_setCell_other _ _ _ _ (by simp)).trans a.c1, (World.cell?_setCell_other _ _ _ _ (by simp)).trans a.c2, (World.cell?_setCell_other _ _ _ _ (by simp)).trans a.c3, (World.frozen?_setCell _ _ _ _).trans a.f0, (World.frozen?_setCell _ _ _ _).trans a.f1, (World.frozen?_setCell _ _ _ _).trans a.f2, (World.frozen?_setCell _ _ _ _).trans a.f3⟩
theorem NW.set1 {W : World} {b : Nat} {x : Ss} (a : NW W b x) (y : Int) : NW (W.setCell ⟨b, 1, none⟩ (.int .i64 y)) b (⟨⟨x.l.lo, y⟩, ⟨x.u.lo, x.u.hi⟩⟩ : Ss) :=
  ⟨(World.cell?_setCell_other _ _ _ _ (by simp)).trans a.c0, World.cell?_setCell_same _ _ _ a.c1, (World.cell?_setCell_other _ _ _ _ (by simp)).trans a.c2, (World.cell?_setCell_other _ _ _ _ (by simp)).trans a.c3, (World.frozen?_setCell _ _ _ _).trans a.f0, (World.frozen?_setCell _ _ _ _).trans a.f1, (World.frozen?_setCell _ _ _ _).trans a.f2, (World.frozen?_setCell _ _ _ _).trans a.f3⟩
theorem NW.set2 {W : World} {b : Nat} {x : Ss} (a : NW W b x) (y : Int) : NW (W.setCell ⟨b, 2, none⟩ (.int .i64 y)) b (⟨⟨x.l.lo, x.l.hi⟩, ⟨y, x.u.hi⟩⟩ : Ss) :=
  ⟨(World.cell?_setCell_other _ _ _ _ (by simp)).trans a.c0, (World.cell?_setCell_other _ _ _ _ (by simp)).trans a.c1, World.cell?_setCell_same _ _ _ a.c2, (World.cell?_setCell_other _ _ _ _ (by simp)).trans a.c3, (World.frozen?_setCell _ _ _ _).trans a.f0, (World.frozen?_setCell _ _ _ _).trans a.f1, (World.frozen?_setCell _ _ _ _).trans a.f2, (World.frozen?_setCell _ _ _ _).trans a.f3⟩
theorem NW.set3 {W : World} {b : Nat} {x : Ss} (a : NW W b x) (y : Int) : NW (W.setCell ⟨b, 3, none⟩ (.int .i64 y)) b (⟨⟨x.l.lo, x.l.hi⟩, ⟨x.u.lo, y⟩⟩ : Ss) :=
  ⟨(World.cell?_setCell_other _ _ _ _ (by simp)).trans a.c0, (World.cell?_setCell_other _ _ _ _ (by simp)).trans a.c1, (World.cell?_setCell_other _ _ _ _ (by simp)).trans a.c2, World.cell?_setCell_same _ _ _ a.c3, (World.frozen?_setCell _ _ _ _).trans a.f0, (World.frozen?_setCell _ _ _ _).trans a.f1, (World.frozen?_setCell _ _ _ _).trans a.f2, (World.frozen?_setCell _ _ _ _).trans a.f3⟩
def putN (W : World) (b : Nat) (x : Ss) : World := ((((W.setCell ⟨b, 0, none⟩ (.int .i64 x.l.lo)).setCell ⟨b, 1, none⟩ (.int .i64 x.l.hi)).setCell ⟨b, 2, none⟩ (.int .i64 x.u.lo)).setCell ⟨b, 3, none⟩ (.int .i64 x.u.hi))
theorem NW.put {W : World} {b : Nat} {x : Ss} (a : NW W b x) (y : Ss) : NW (putN W b y) b y := ((((a.set0 y.l.lo).set1 y.l.hi).set2 y.u.lo).set3 y.u.hi)
theorem below_putN {B : Nat} {w W : World} (h : Below B w W) {b : Nat} (hb : B ≤ b) (x : Ss) : Below B w (putN W b x) := ((((h.setCell hb _).setCell hb _).setCell hb _).setCell hb _)
end Go.Proofs.YtnfdplfifpmhoaaGreatDoor
