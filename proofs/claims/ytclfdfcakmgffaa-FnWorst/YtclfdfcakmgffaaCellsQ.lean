/-
  A pair of commands in a block of its own, which may be written.
-/
import Derived.Test.YtclfdfcakmgffaaCellsD
namespace Go.Proofs.Ytclfdfcakmgffaa
open Go.RowKit Pl

/-- What both cars of a shaft are told. -/
structure Pr where
  a : Cm
  b : Cm

/-- The cells of a block, written out. -/
structure JW (w : World) (b : Nat) (x : Pr) : Prop where
  c0 : w.cell? ⟨b, 0, none⟩ = some (.int .i64 x.a.push)
  c1 : w.cell? ⟨b, 1, none⟩ = some (.bool x.a.brk)
  c2 : w.cell? ⟨b, 2, none⟩ = some (.bool x.a.opn)
  c3 : w.cell? ⟨b, 3, none⟩ = some (.int .i64 x.b.push)
  c4 : w.cell? ⟨b, 4, none⟩ = some (.bool x.b.brk)
  c5 : w.cell? ⟨b, 5, none⟩ = some (.bool x.b.opn)
  f0 : w.frozen? ⟨b, 0, none⟩ = false
  f1 : w.frozen? ⟨b, 1, none⟩ = false
  f2 : w.frozen? ⟨b, 2, none⟩ = false
  f3 : w.frozen? ⟨b, 3, none⟩ = false
  f4 : w.frozen? ⟨b, 4, none⟩ = false
  f5 : w.frozen? ⟨b, 5, none⟩ = false
theorem JW.lt {w : World} {b : Nat} {x : Pr} (a : JW w b x) : b < w.heap.size := World.block_lt_of_cell? w _ a.c0
theorem JW.at_ (w : World) (x : Pr) (T : TypeId) (b : Nat) (hb : b = w.heap.size) : JW (w.alloc (.cells #[.int .i64 x.a.push, .bool x.a.brk, .bool x.a.opn, .int .i64 x.b.push, .bool x.b.brk, .bool x.b.opn] T)) b x := by
  subst hb
  constructor <;> simp
theorem JW.of {W w : World} {b : Nat} {x : Pr} (a : JW W b x) (hc : ∀ o, w.cell? ⟨b, o, none⟩ = W.cell? ⟨b, o, none⟩) (hf : ∀ o, w.frozen? ⟨b, o, none⟩ = W.frozen? ⟨b, o, none⟩) : JW w b x :=
  ⟨(hc 0).trans a.c0, (hc 1).trans a.c1, (hc 2).trans a.c2, (hc 3).trans a.c3, (hc 4).trans a.c4, (hc 5).trans a.c5, (hf 0).trans a.f0, (hf 1).trans a.f1, (hf 2).trans a.f2, (hf 3).trans a.f3, (hf 4).trans a.f4, (hf 5).trans a.f5⟩
theorem JW.below {W w : World} {b B : Nat} {x : Pr} (a : JW W b x) (hb : Below B W w) (hB : b < B) : JW w b x :=
  a.of (fun o => hb.cell (p := ⟨b, o, none⟩) hB) (fun o => hb.frozen (p := ⟨b, o, none⟩) hB)
theorem JW.alloc {W : World} {b : Nat} {x : Pr} (a : JW W b x) (o : Obj) : JW (W.alloc o) b x := a.below ((Below.refl _ _).alloc (Nat.le_refl _) o) a.lt
theorem JW.drew {W : World} {b : Nat} {x : Pr} (a : JW W b x) : JW W.drew b x := a.below (Below.refl W.heap.size W).drew a.lt
theorem JW.other {W : World} {b k o : Nat} {u : Value} {x : Pr} (a : JW W b x) (hne : b ≠ k) : JW (W.setCell ⟨k, o, none⟩ u) b x :=
  a.of (fun _ => World.cell?_setCell_other _ _ _ _ (fun e => hne (congrArg Addr.block e).symm)) (fun _ => World.frozen?_setCell _ _ _ _)

/-- The cells of a block, written out. -/
structure RJ (w : World) (b : Nat) : Prop where
  c0 : w.cell? ⟨b, 0, none⟩ = some (.int .i64 0)
  c1 : w.cell? ⟨b, 1, none⟩ = some (.bool false)
  c2 : w.cell? ⟨b, 2, none⟩ = some (.bool false)
  c3 : w.cell? ⟨b, 3, none⟩ = some (.int .i64 0)
  c4 : w.cell? ⟨b, 4, none⟩ = some (.bool false)
  c5 : w.cell? ⟨b, 5, none⟩ = some (.bool false)
  f0 : w.frozen? ⟨b, 0, none⟩ = false
  f1 : w.frozen? ⟨b, 1, none⟩ = false
  f2 : w.frozen? ⟨b, 2, none⟩ = false
  f3 : w.frozen? ⟨b, 3, none⟩ = false
  f4 : w.frozen? ⟨b, 4, none⟩ = false
  f5 : w.frozen? ⟨b, 5, none⟩ = false
theorem RJ.lt {w : World} {b : Nat} (a : RJ w b) : b < w.heap.size := World.block_lt_of_cell? w _ a.c0
theorem RJ.at_ (w : World) (T : TypeId) (b : Nat) (hb : b = w.heap.size) : RJ (w.alloc (.cells #[.int .i64 0, .bool false, .bool false, .int .i64 0, .bool false, .bool false] T)) b := by
  subst hb
  constructor <;> simp
theorem RJ.of {W w : World} {b : Nat} (a : RJ W b) (hc : ∀ o, w.cell? ⟨b, o, none⟩ = W.cell? ⟨b, o, none⟩) (hf : ∀ o, w.frozen? ⟨b, o, none⟩ = W.frozen? ⟨b, o, none⟩) : RJ w b :=
  ⟨(hc 0).trans a.c0, (hc 1).trans a.c1, (hc 2).trans a.c2, (hc 3).trans a.c3, (hc 4).trans a.c4, (hc 5).trans a.c5, (hf 0).trans a.f0, (hf 1).trans a.f1, (hf 2).trans a.f2, (hf 3).trans a.f3, (hf 4).trans a.f4, (hf 5).trans a.f5⟩
theorem RJ.below {W w : World} {b B : Nat} (a : RJ W b) (hb : Below B W w) (hB : b < B) : RJ w b :=
  a.of (fun o => hb.cell (p := ⟨b, o, none⟩) hB) (fun o => hb.frozen (p := ⟨b, o, none⟩) hB)
theorem RJ.alloc {W : World} {b : Nat} (a : RJ W b) (o : Obj) : RJ (W.alloc o) b := a.below ((Below.refl _ _).alloc (Nat.le_refl _) o) a.lt
theorem RJ.drew {W : World} {b : Nat} (a : RJ W b) : RJ W.drew b := a.below (Below.refl W.heap.size W).drew a.lt
theorem RJ.other {W : World} {b k o : Nat} {u : Value} (a : RJ W b) (hne : b ≠ k) : RJ (W.setCell ⟨k, o, none⟩ u) b :=
  a.of (fun _ => World.cell?_setCell_other _ _ _ _ (fun e => hne (congrArg Addr.block e).symm)) (fun _ => World.frozen?_setCell _ _ _ _)
theorem JW.set0 {W : World} {b : Nat} {x : Pr} (a : JW W b x) (y : Int) : JW (W.setCell ⟨b, 0, none⟩ (.int .i64 y)) b (⟨⟨y, x.a.brk, x.a.opn⟩, ⟨x.b.push, x.b.brk, x.b.opn⟩⟩ : Pr) :=
  ⟨World.cell?_setCell_same _ _ _ a.c0, (World.cell?_setCell_other _ _ _ _ (by simp)).trans a.c1, (World.cell?_setCell_other _ _ _ _ (by simp)).trans a.c2, (World.cell?_setCell_other _ _ _ _ (by simp)).trans a.c3, (World.cell?_setCell_other _ _ _ _ (by simp)).trans a.c4, (World.cell?_setCell_other _ _ _ _ (by simp)).trans a.c5, (World.frozen?_setCell _ _ _ _).trans a.f0, (World.frozen?_setCell _ _ _ _).trans a.f1, (World.frozen?_setCell _ _ _ _).trans a.f2, (World.frozen?_setCell _ _ _ _).trans a.f3, (World.frozen?_setCell _ _ _ _).trans a.f4, (World.frozen?_setCell _ _ _ _).trans a.f5⟩
theorem JW.set1 {W : World} {b : Nat} {x : Pr} (a : JW W b x) (y : Bool) : JW (W.setCell ⟨b, 1, none⟩ (.bool y)) b (⟨⟨x.a.push, y, x.a.opn⟩, ⟨x.b.push, x.b.brk, x.b.opn⟩⟩ : Pr) :=
  ⟨(World.cell?_setCell_other _ _ _ _ (by simp)).trans a.c0, World.cell?_setCell_same _ _ _ a.c1, (World.cell?_setCell_other _ _ _ _ (by simp)).trans a.c2, (World.cell?_setCell_other _ _ _ _ (by simp)).trans a.c3, (World.cell?_setCell_other _ _ _ _ (by simp)).trans a.c4, (World.cell?_setCell_other _ _ _ _ (by simp)).trans a.c5, (World.frozen?_setCell _ _ _ _).trans a.f0, (World.frozen?_setCell _ _ _ _).trans a.f1, (World.frozen?_setCell _ _ _ _).trans a.f2, (World.frozen?_setCell _ _ _ _).trans a.f3, (World.frozen?_setCell _ _ _ _).trans a.f4, (World.frozen?_setCell _ _ _ _).trans a.f5⟩
theorem JW.set2 {W : World} {b : Nat} {x : Pr} (a : JW W b x) (y : Bool) : JW (W.setCell ⟨b, 2, none⟩ (.bool y)) b (⟨⟨x.a.push, x.a.brk, y⟩, ⟨x.b.push, x.b.brk, x.b.opn⟩⟩ : Pr) :=
  ⟨(World.cell?_setCell_other _ _ _ _ (by simp)).trans a.c0, (World.cell?_setCell_other _ _ _ _ (by simp)).trans a.c1, World.cell?_setCell_same _ _ _ a.c2, (World.cell?_setCell_other _ _ _ _ (by simp)).trans a.c3, (World.cell?_setCell_other _ _ _ _ (by simp)).trans a.c4, (World.cell?_setCell_other _ _ _ _ (by simp)).trans a.c5, (World.frozen?_setCell _ _ _ _).trans a.f0, (World.frozen?_setCell _ _ _ _).trans a.f1, (World.frozen?_setCell _ _ _ _).trans a.f2, (World.frozen?_setCell _ _ _ _).trans a.f3, (World.frozen?_setCell _ _ _ _).trans a.f4, (World.frozen?_setCell _ _ _ _).trans a.f5⟩
theorem JW.set3 {W : World} {b : Nat} {x : Pr} (a : JW W b x) (y : Int) : JW (W.setCell ⟨b, 3, none⟩ (.int .i64 y)) b (⟨⟨x.a.push, x.a.brk, x.a.opn⟩, ⟨y, x.b.brk, x.b.opn⟩⟩ : Pr) :=
  ⟨(World.cell?_setCell_other _ _ _ _ (by simp)).trans a.c0, (World.cell?_setCell_other _ _ _ _ (by simp)).trans a.c1, (World.cell?_setCell_other _ _ _ _ (by simp)).trans a.c2, World.cell?_setCell_same _ _ _ a.c3, (World.cell?_setCell_other _ _ _ _ (by simp)).trans a.c4, (World.cell?_setCell_other _ _ _ _ (by simp)).trans a.c5, (World.frozen?_setCell _ _ _ _).trans a.f0, (World.frozen?_setCell _ _ _ _).trans a.f1, (World.frozen?_setCell _ _ _ _).trans a.f2, (World.frozen?_setCell _ _ _ _).trans a.f3, (World.frozen?_setCell _ _ _ _).trans a.f4, (World.frozen?_setCell _ _ _ _).trans a.f5⟩
theorem JW.set4 {W : World} {b : Nat} {x : Pr} (a : JW W b x) (y : Bool) : JW (W.setCell ⟨b, 4, none⟩ (.bool y)) b (⟨⟨x.a.push, x.a.brk, x.a.opn⟩, ⟨x.b.push, y, x.b.opn⟩⟩ : Pr) :=
  ⟨(World.cell?_setCell_other _ _ _ _ (by simp)).trans a.c0, (World.cell?_setCell_other _ _ _ _ (by simp)).trans a.c1, (World.cell?_setCell_other _ _ _ _ (by simp)).trans a.c2, (World.cell?_setCell_other _ _ _ _ (by simp)).trans a.c3, World.cell?_setCell_same _ _ _ a.c4, (World.cell?_setCell_other _ _ _ _ (by simp)).trans a.c5, (World.frozen?_setCell _ _ _ _).trans a.f0, (World.frozen?_setCell _ _ _ _).trans a.f1, (World.frozen?_setCell _ _ _ _).trans a.f2, (World.frozen?_setCell _ _ _ _).trans a.f3, (World.frozen?_setCell _ _ _ _).trans a.f4, (World.frozen?_setCell _ _ _ _).trans a.f5⟩
theorem JW.set5 {W : World} {b : Nat} {x : Pr} (a : JW W b x) (y : Bool) : JW (W.setCell ⟨b, 5, none⟩ (.bool y)) b (⟨⟨x.a.push, x.a.brk, x.a.opn⟩, ⟨x.b.push, x.b.brk, y⟩⟩ : Pr) :=
  ⟨(World.cell?_setCell_other _ _ _ _ (by simp)).trans a.c0, (World.cell?_setCell_other _ _ _ _ (by simp)).trans a.c1, (World.cell?_setCell_other _ _ _ _ (by simp)).trans a.c2, (World.cell?_setCell_other _ _ _ _ (by simp)).trans a.c3, (World.cell?_setCell_other _ _ _ _ (by simp)).trans a.c4, World.cell?_setCell_same _ _ _ a.c5, (World.frozen?_setCell _ _ _ _).trans a.f0, (World.frozen?_setCell _ _ _ _).trans a.f1, (World.frozen?_setCell _ _ _ _).trans a.f2, (World.frozen?_setCell _ _ _ _).trans a.f3, (World.frozen?_setCell _ _ _ _).trans a.f4, (World.frozen?_setCell _ _ _ _).trans a.f5⟩
def putJ (W : World) (b : Nat) (x : Pr) : World := ((((((W.setCell ⟨b, 0, none⟩ (.int .i64 x.a.push)).setCell ⟨b, 1, none⟩ (.bool x.a.brk)).setCell ⟨b, 2, none⟩ (.bool x.a.opn)).setCell ⟨b, 3, none⟩ (.int .i64 x.b.push)).setCell ⟨b, 4, none⟩ (.bool x.b.brk)).setCell ⟨b, 5, none⟩ (.bool x.b.opn))
theorem JW.put {W : World} {b : Nat} {x : Pr} (a : JW W b x) (y : Pr) : JW (putJ W b y) b y := ((((((a.set0 y.a.push).set1 y.a.brk).set2 y.a.opn).set3 y.b.push).set4 y.b.brk).set5 y.b.opn)
theorem RJ.jw {W : World} {b : Nat} (a : RJ W b) : JW W b ⟨⟨0, false, false⟩, ⟨0, false, false⟩⟩ := ⟨a.c0, a.c1, a.c2, a.c3, a.c4, a.c5, a.f0, a.f1, a.f2, a.f3, a.f4, a.f5⟩
theorem RJ.put {W : World} {b : Nat} (a : RJ W b) (y : Pr) : JW (putJ W b y) b y := a.jw.put y
theorem RJ.putJ {W : World} {b k : Nat} (a : RJ W b) (hne : b ≠ k) (y : Pr) : RJ (Go.Proofs.Ytclfdfcakmgffaa.putJ W k y) b := ((((((a.other hne).other hne).other hne).other hne).other hne).other hne)
theorem below_putJ {B : Nat} {w W : World} (h : Below B w W) {b : Nat} (hb : B ≤ b) (x : Pr) : Below B w (putJ W b x) := ((((((h.setCell hb _).setCell hb _).setCell hb _).setCell hb _).setCell hb _).setCell hb _)
end Go.Proofs.Ytclfdfcakmgffaa
