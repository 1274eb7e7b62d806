/-
  The base of what follows: plain numbers, cells, contracts of the smallest functions.
-/
import Derived.Test.YtdkikijnjkoddaaGreatGdS
import Derived.Test.YtdkikijnjkoddaaGreatFnd
/-
  Spans in blocks of their own, which may be written.
-/
namespace Go.Proofs.YtdkikijnjkoddaaGreat
open Go.RowKit Pl

/-- The cells of a block, written out. -/
structure MW (w : World) (b : Nat) (x : Sp) : Prop where
  c0 : w.cell? ⟨b, 0, none⟩ = some (.int .i64 x.lo)
  c1 : w.cell? ⟨b, 1, none⟩ = some (.int .i64 x.hi)
  f0 : w.frozen? ⟨b, 0, none⟩ = false
  f1 : w.frozen? ⟨b, 1, none⟩ = false
theorem MW.lt {w : World} {b : Nat} {x : Sp} (a : MW w b x) : b < w.heap.size := World.block_lt_of_cell? w _ a.c0
theorem MW.at_ (w : World) (x : Sp) (T : TypeId) (b : Nat) (hb : b = w.heap.size) : MW (w.alloc (.cells #[.int .i64 x.lo, .int .i64 x.hi] T)) b x := by
  subst hb
  constructor <;> simp
theorem MW.of {W w : World} {b : Nat} {x : Sp} (a : MW W b x) (hc : ∀ o, w.cell? ⟨b, o, none⟩ = W.cell? ⟨b, o, none⟩) (hf : ∀ o, w.frozen? ⟨b, o, none⟩ = W.frozen? ⟨b, o, none⟩) : MW w b x :=
  ⟨(hc 0).trans a.c0, (hc 1).trans a.c1, (hf 0).trans a.f0, (hf 1).trans a.f1⟩
theorem MW.below {W w : World} {b B : Nat} {x : Sp} (a : MW W b x) (hb : Below B W w) (hB : b < B) : MW w b x :=
  a.of (fun o => hb.cell (p := ⟨b, o, none⟩) hB) (fun o => hb.frozen (p := ⟨b, o, none⟩) hB)
theorem MW.alloc {W : World} {b : Nat} {x : Sp} (a : MW W b x) (o : Obj) : MW (W.alloc o) b x := a.below ((Below.refl _ _).alloc (Nat.le_refl _) o) a.lt
theorem MW.drew {W : World} {b : Nat} {x : Sp} (a : MW W b x) : MW W.drew b x := a.below (Below.refl W.heap.size W).drew a.lt
theorem MW.other {W : World} {b k o : Nat} {u : Value} {x : Sp} (a : MW W b x) (hne : b ≠ k) : MW (W.setCell ⟨k, o, none⟩ u) b x :=
  a.of (fun _ => World.cell?_setCell_other _ _ _ _ (fun e => hne (congrArg Addr.block e).symm)) (fun _ => World.frozen?_setCell _ _ _ _)
theorem MW.set0 {W : World} {b : Nat} {x : Sp} (a : MW W b x) (y : Int) : MW (W.setCell ⟨b, 0, none⟩ (.int .i64 y)) b (⟨y, x.hi⟩ : Sp) :=
  ⟨World.cell?_setCell_same _ _ _ a.c0, (World.cell?_setCell_other _ _ _ _ (by simp)).trans a.c1, (World.frozen?_setCell _ _ _ _).trans a.f0, (World.frozen?_setCell _ _ _ _).trans a.f1⟩
theorem MW.set1 {W : World} {b : Nat} {x : Sp} (a : MW W b x) (y : Int) : MW (W.setCell ⟨b, 1, none⟩ (.int .i64 y)) b (⟨x.lo, y⟩ : Sp) :=
  ⟨(World.cell?_setCell_other _ _ _ _ (by simp)).trans a.c0, World.cell?_setCell_same _ _ _ a.c1, (World.frozen?_setCell _ _ _ _).trans a.f0, (World.frozen?_setCell _ _ _ _).trans a.f1⟩
def putM (W : World) (b : Nat) (x : Sp) : World := ((W.setCell ⟨b, 0, none⟩ (.int .i64 x.lo)).setCell ⟨b, 1, none⟩ (.int .i64 x.hi))
theorem MW.put {W : World} {b : Nat} {x : Sp} (a : MW W b x) (y : Sp) : MW (putM W b y) b y := ((a.set0 y.lo).set1 y.hi)
/-- The cells of a block, written out. -/
structure NW (w : World) (b : Nat) (x : Ss) : Prop where
  c0 : w.cell? ⟨b, 0, none⟩ = some (.int .i64 x.l.lo)
  c1 : w.cell? ⟨b, 1, none⟩ = some (.int .i64 x.l.hi)
  c2 : w.cell? ⟨b, 2, none⟩ = some (.int .i64 x.u.lo)
  c3 : w.cell? ⟨b, 3, none⟩ = some (.int .i64 x.u.hi)
  f0 : w.frozen? ⟨b, 0, none⟩ = false
  f1 : w.frozen? ⟨b, 1, none⟩ = false
  f2 : w.frozen? ⟨b, 2, none⟩ = false
  f3 : w.frozen? ⟨b, 3, none⟩ = false
theorem NW.lt {w : World} {b : Nat} {x : Ss} (a : NW w b x) : b < w.heap.size := World.block_lt_of_cell? w _ a.c0
theorem NW.at_ (w : World) (x : Ss) (T : TypeId) (b : Nat) (hb : b = w.heap.size) : NW (w.alloc (.cells #[.int .i64 x.l.lo, .int .i64 x.l.hi, .int .i64 x.u.lo, .int .i64 x.u.hi] T)) b x := by
  subst hb
  constructor <;> simp
theorem NW.of {W w : World} {b : Nat} {x : Ss} (a : NW W b x) (hc : ∀ o, w.cell? ⟨b, o, none⟩ = W.cell? ⟨b, o, none⟩) (hf : ∀ o, w.frozen? ⟨b, o, none⟩ = W.frozen? ⟨b, o, none⟩) : NW w b x :=
  ⟨(hc 0).trans a.c0, (hc 1).trans a.c1, (hc 2).trans a.c2, (hc 3).trans a.c3, (hf 0).trans a.f0, (hf 1).trans a.f1, (hf 2).trans a.f2, (hf 3).trans a.f3⟩
theorem NW.below {W w : World} {b B : Nat} {x : Ss} (a : NW W b x) (hb : Below B W w) (hB : b < B) : NW w b x :=
  a.of (fun o => hb.cell (p := ⟨b, o, none⟩) hB) (fun o => hb.frozen (p := ⟨b, o, none⟩) hB)
theorem NW.alloc {W : World} {b : Nat} {x : Ss} (a : NW W b x) (o : Obj) : NW (W.alloc o) b x := a.below ((Below.refl _ _).alloc (Nat.le_refl _) o) a.lt
theorem NW.drew {W : World} {b : Nat} {x : Ss} (a : NW W b x) : NW W.drew b x := a.below (Below.refl W.heap.size W).drew a.lt
theorem NW.other {W : World} {b k o : Nat} {u : Value} {x : Ss} (a : NW W b x) (hne : b ≠ k) : NW (W.setCell ⟨k, o, none⟩ u) b x :=
  a.of (fun _ => World.cell?_setCell_other _ _ _ _ (fun e => hne (congrArg Addr.block e).symm)) (fun _ => World.frozen?_setCell _ _ _ _)
theorem NW.set0 {W : World} {b : Nat} {x : Ss} (a : NW W b x) (y : Int) : NW (W.setCell ⟨b, 0, none⟩ (.int .i64 y)) b (⟨⟨y, x.l.hi⟩, ⟨x.u.lo, x.u.hi⟩⟩ : Ss) :=
  ⟨World.cell?_setCell_same _ _ _ a.c0, (World.cell?_setCell_other _ _ _ _ (by simp)).trans a.c1, (World.cell?_setCell_other _ _ _ _ (by simp)).trans a.c2, (World.cell?_setCell_other _ _ _ _ (by simp)).trans a.c3, (World.frozen?_setCell _ _ _ _).trans a.f0, (World.frozen?_setCell _ _ _ _).trans a.f1, (World.frozen?_setCell _ _ _ _).trans a.f2, (World.frozen?_setCell _ _ _ _).trans a.f3⟩
theorem NW.set1 {W : World} {b : Nat} {x : Ss} (a : NW W b x) (y : Int) : NW (W.setCell ⟨b, 1, none⟩ (.int .i64 y)) b (⟨⟨x.l.lo, y⟩, ⟨x.u.lo, x.u.hi⟩⟩ : Ss) :=
  ⟨(World.cell?_setCell_other _ _ _ _ (by simp)).trans a.c0, World.cell?_setCell_same _ _ _ a.c1, (World.cell?_setCell_other _ _ _ _ (by simp)).trans a.c2, (World.cell?_setCell_other _ _ _ _ (by simp)).trans a.c3, (World.frozen?_setCell _ _ _ _).trans a.f0, (World.frozen?_setCell _ _ _ _).trans a.f1, (World.frozen?_setCell _ _ _ _).trans a.f2, (World.frozen?_setCell _ _ _ _).trans a.f3⟩
theorem NW.set2 {W : World} {b : Nat} {x : Ss} (a : NW W b x) (y : Int) : NW (W.setCell ⟨b, 2, none⟩ (.int .i64 y)) b (⟨⟨x.l.lo, x.l.hi⟩, ⟨y, x.u.hi⟩⟩ : Ss) :=
  ⟨(World.cell?_setCell_other _ _ _ _ (by simp)).trans a.c0, (World.cell?_setCell_other _ _ _ _ (by simp)).trans a.c1, World.cell?_setCell_same _ _ _ a.c2, (World.cell?_setCell_other _ _ _ _ (by simp)).trans a.c3, (World.frozen?_setCell _ _ _ _).trans a.f0, (World.frozen?_setCell _ _ _ _).trans a.f1, (World.frozen?_setCell _ _ _ _).trans a.f2, (World.frozen?_setCell _ _ _ _).trans a.f3⟩
theorem NW.set3 {W : World} {b : Nat} {x : Ss} (a : NW W b x) (y : Int) : NW (W.setCell ⟨b, 3, none⟩ (.int .i64 y)) b (⟨⟨x.l.lo, x.l.hi⟩, ⟨x.u.lo, y⟩⟩ : Ss) :=
  ⟨(World.cell?_setCell_other _ _ _ _ (by simp)).trans a.c0, (World.cell?_setCell_other _ _ _ _ (by simp)).trans a.c1, (World.cell?_setCell_other _ _ _ _ (by simp)).trans a.c2, World.cell?_setCell_same _ _ _ a.c3, (World.frozen?_setCell _ _ _ _).trans a.f0, (World.frozen?_setCell _ _ _ _).trans a.f1, (World.frozen?_setCell _ _ _ _).trans a.f2, (World.frozen?_setCell _ _ _ _).trans a.f3⟩
def putN (W : World) (b : Nat) (x : Ss) : World := ((((W.setCell ⟨b, 0, none⟩ (.int .i64 x.l.lo)).setCell ⟨b, 1, none⟩ (.int .i64 x.l.hi)).setCell ⟨b, 2, none⟩ (.int .i64 x.u.lo)).setCell ⟨b, 3, none⟩ (.int .i64 x.u.hi))
theorem NW.put {W : World} {b : Nat} {x : Ss} (a : NW W b x) (y : Ss) : NW (putN W b y) b y := ((((a.set0 y.l.lo).set1 y.l.hi).set2 y.u.lo).set3 y.u.hi)
theorem below_putN {B : Nat} {w W : World} (h : Below B w W) {b : Nat} (hb : B ≤ b) (x : Ss) : Below B w (putN W b x) := ((((h.setCell hb _).setCell hb _).setCell hb _).setCell hb _)
end Go.Proofs.YtdkikijnjkoddaaGreat

/-
  A result of 5 cells: not filled yet, filled, stored whole.
-/
namespace Go.Proofs.YtdkikijnjkoddaaGreat
open Go.RowKit Pl

structure RSps (w : World) (b : Nat) : Prop where
  c0 : w.cell? ⟨b, 0, none⟩ = some (.int .i64 0)
  c1 : w.cell? ⟨b, 1, none⟩ = some (.int .i64 0)
  c2 : w.cell? ⟨b, 2, none⟩ = some (.int .i64 0)
  c3 : w.cell? ⟨b, 3, none⟩ = some (.int .i64 0)
  c4 : w.cell? ⟨b, 4, none⟩ = some (.int .i64 0)
  f0 : w.frozen? ⟨b, 0, none⟩ = false
  f1 : w.frozen? ⟨b, 1, none⟩ = false
  f2 : w.frozen? ⟨b, 2, none⟩ = false
  f3 : w.frozen? ⟨b, 3, none⟩ = false
  f4 : w.frozen? ⟨b, 4, none⟩ = false
theorem RSps.lt {w : World} {b : Nat} (a : RSps w b) : b < w.heap.size := World.block_lt_of_cell? w _ a.c0
theorem RSps.at_ (w : World) (T : TypeId) (b : Nat) (hb : b = w.heap.size) : RSps (w.alloc (.cells #[.int .i64 0, .int .i64 0, .int .i64 0, .int .i64 0, .int .i64 0] T)) b := by
  subst hb
  constructor <;> simp
theorem RSps.below {W w : World} {b B : Nat} (a : RSps W b) (hb : Below B W w) (hB : b < B) : RSps w b :=
  ⟨(hb.cell (p := ⟨b, 0, none⟩) hB).trans a.c0, (hb.cell (p := ⟨b, 1, none⟩) hB).trans a.c1, (hb.cell (p := ⟨b, 2, none⟩) hB).trans a.c2, (hb.cell (p := ⟨b, 3, none⟩) hB).trans a.c3, (hb.cell (p := ⟨b, 4, none⟩) hB).trans a.c4, (hb.frozen (p := ⟨b, 0, none⟩) hB).trans a.f0, (hb.frozen (p := ⟨b, 1, none⟩) hB).trans a.f1, (hb.frozen (p := ⟨b, 2, none⟩) hB).trans a.f2, (hb.frozen (p := ⟨b, 3, none⟩) hB).trans a.f3, (hb.frozen (p := ⟨b, 4, none⟩) hB).trans a.f4⟩
theorem RSps.alloc {W : World} {b : Nat} (a : RSps W b) (o : Obj) : RSps (W.alloc o) b := a.below ((Below.refl _ _).alloc (Nat.le_refl _) o) a.lt
theorem RSps.other {W : World} {b kb o : Nat} {u : Value} (a : RSps W b) (hne : b ≠ kb) : RSps (W.setCell ⟨kb, o, none⟩ u) b :=
  ⟨(cellS hne).trans a.c0, (cellS hne).trans a.c1, (cellS hne).trans a.c2, (cellS hne).trans a.c3, (cellS hne).trans a.c4, (World.frozen?_setCell _ _ _ _).trans a.f0, (World.frozen?_setCell _ _ _ _).trans a.f1, (World.frozen?_setCell _ _ _ _).trans a.f2, (World.frozen?_setCell _ _ _ _).trans a.f3, (World.frozen?_setCell _ _ _ _).trans a.f4⟩
structure VSps (w : World) (b : Nat) (k : Int) (x : Ss) : Prop where
  c0 : w.cell? ⟨b, 0, none⟩ = some (.int .i64 k)
  c1 : w.cell? ⟨b, 1, none⟩ = some (.int .i64 x.l.lo)
  c2 : w.cell? ⟨b, 2, none⟩ = some (.int .i64 x.l.hi)
  c3 : w.cell? ⟨b, 3, none⟩ = some (.int .i64 x.u.lo)
  c4 : w.cell? ⟨b, 4, none⟩ = some (.int .i64 x.u.hi)
theorem VSps.lt {w : World} {b : Nat} {k : Int} {x : Ss} (a : VSps w b k x) : b < w.heap.size := World.block_lt_of_cell? w _ a.c0
theorem VSps.at_ (w : World) (k : Int) (x : Ss) (T : TypeId) (b : Nat) (hb : b = w.heap.size) : VSps (w.alloc (.cells #[.int .i64 k, .int .i64 x.l.lo, .int .i64 x.l.hi, .int .i64 x.u.lo, .int .i64 x.u.hi] T)) b k x := by
  subst hb
  constructor <;> simp
theorem VSps.below {W w : World} {b B : Nat} {k : Int} {x : Ss} (a : VSps W b k x) (hb : Below B W w) (hB : b < B) : VSps w b k x :=
  ⟨(hb.cell (p := ⟨b, 0, none⟩) hB).trans a.c0, (hb.cell (p := ⟨b, 1, none⟩) hB).trans a.c1, (hb.cell (p := ⟨b, 2, none⟩) hB).trans a.c2, (hb.cell (p := ⟨b, 3, none⟩) hB).trans a.c3, (hb.cell (p := ⟨b, 4, none⟩) hB).trans a.c4⟩
theorem VSps.alloc {W : World} {b : Nat} {k : Int} {x : Ss} (a : VSps W b k x) (o : Obj) : VSps (W.alloc o) b k x := a.below ((Below.refl _ _).alloc (Nat.le_refl _) o) a.lt
theorem VSps.other {W : World} {b kb o : Nat} {u : Value} {k : Int} {x : Ss} (a : VSps W b k x) (hne : b ≠ kb) : VSps (W.setCell ⟨kb, o, none⟩ u) b k x :=
  ⟨(cellS hne).trans a.c0, (cellS hne).trans a.c1, (cellS hne).trans a.c2, (cellS hne).trans a.c3, (cellS hne).trans a.c4⟩
def putSps (W : World) (b : Nat) (k : Int) (x : Ss) : World := (((((W.setCell ⟨b, 0, none⟩ (.int .i64 k)).setCell ⟨b, 1, none⟩ (.int .i64 x.l.lo)).setCell ⟨b, 2, none⟩ (.int .i64 x.l.hi)).setCell ⟨b, 3, none⟩ (.int .i64 x.u.lo)).setCell ⟨b, 4, none⟩ (.int .i64 x.u.hi))
theorem RSps.put {W : World} {b : Nat} (a : RSps W b) (k : Int) (x : Ss) : VSps (putSps W b k x) b k x :=
  ⟨((World.cell?_setCell_other _ _ _ _ (by simp)).trans (((World.cell?_setCell_other _ _ _ _ (by simp)).trans (((World.cell?_setCell_other _ _ _ _ (by simp)).trans (((World.cell?_setCell_other _ _ _ _ (by simp)).trans ((World.cell?_setCell_same _ _ _ (a.c0)))))))))), ((World.cell?_setCell_other _ _ _ _ (by simp)).trans (((World.cell?_setCell_other _ _ _ _ (by simp)).trans (((World.cell?_setCell_other _ _ _ _ (by simp)).trans ((World.cell?_setCell_same _ _ _ (((World.cell?_setCell_other _ _ _ _ (by simp)).trans (a.c1)))))))))), ((World.cell?_setCell_other _ _ _ _ (by simp)).trans (((World.cell?_setCell_other _ _ _ _ (by simp)).trans ((World.cell?_setCell_same _ _ _ (((World.cell?_setCell_other _ _ _ _ (by simp)).trans (((World.cell?_setCell_other _ _ _ _ (by simp)).trans (a.c2)))))))))), ((World.cell?_setCell_other _ _ _ _ (by simp)).trans ((World.cell?_setCell_same _ _ _ (((World.cell?_setCell_other _ _ _ _ (by simp)).trans (((World.cell?_setCell_other _ _ _ _ (by simp)).trans (((World.cell?_setCell_other _ _ _ _ (by simp)).trans (a.c3)))))))))), (World.cell?_setCell_same _ _ _ (((World.cell?_setCell_other _ _ _ _ (by simp)).trans (((World.cell?_setCell_other _ _ _ _ (by simp)).trans (((World.cell?_setCell_other _ _ _ _ (by simp)).trans (((World.cell?_setCell_other _ _ _ _ (by simp)).trans (a.c4))))))))))⟩
end Go.Proofs.YtdkikijnjkoddaaGreat

/-
  The law's spans, turned into the program's; answers that are the same.
-/
namespace Go.Proofs.YtdkikijnjkoddaaGreat
open Go.RowKit Pl
set_option linter.unusedSimpArgs false
set_option linter.unusedVariables false

set_option maxRecDepth 20000 in
set_option maxHeartbeats 8000000 in
theorem toSpan_any (x : Sp) (w : World) :
    Calls Tryz.prog 100 #[.agg #[.int .i64 x.lo, .int .i64 x.hi]] w fun e w' => e = .returned (.agg #[.int .i64 x.lo, .int .i64 x.hi]) ∧ Below w.heap.size w w' := by
  go_enter Tryz.func100, Tryz.ntmps100
  go_wp2
  exact bodyPost_ret (v := .agg #[.int .i64 x.lo, .int .i64 x.hi]) (by simp [results, Tryz.results100, go_sem]) rfl ⟨rfl, by repeat (first | exact Below.refl _ _ | (refine Below.alloc ?_ ?_ _) | (refine Below.setCell ?_ ?_ _) | (simp; omega) | simp)⟩
set_option maxRecDepth 20000 in
set_option maxHeartbeats 8000000 in
theorem toSpans_any (x : Ss) (w : World) :
    Calls Tryz.prog 78 #[.agg #[.int .i64 x.l.lo, .int .i64 x.l.hi, .int .i64 x.u.lo, .int .i64 x.u.hi]] w fun e w' => e = .returned (.agg #[.int .i64 x.l.lo, .int .i64 x.l.hi, .int .i64 x.u.lo, .int .i64 x.u.hi]) ∧ Below w.heap.size w w' := by
  have F0 : Hid (NW (((w.alloc (.cells #[.int .i64 x.l.lo, .int .i64 x.l.hi, .int .i64 x.u.lo, .int .i64 x.u.hi] 101)).alloc (.cells #[.int .i64 0, .int .i64 0, .int .i64 0, .int .i64 0] 80)).alloc (.cells #[.int .i64 0, .int .i64 0, .int .i64 0, .int .i64 0] 80)) w.heap.size x) := ((NW.at_ w x _ _ (by simp)).alloc _).alloc _
  have F1 : Hid (NW (((w.alloc (.cells #[.int .i64 x.l.lo, .int .i64 x.l.hi, .int .i64 x.u.lo, .int .i64 x.u.hi] 101)).alloc (.cells #[.int .i64 0, .int .i64 0, .int .i64 0, .int .i64 0] 80)).alloc (.cells #[.int .i64 0, .int .i64 0, .int .i64 0, .int .i64 0] 80)) (w.heap.size + 1) (⟨⟨0, 0⟩, ⟨0, 0⟩⟩ : Ss)) := (NW.at_ _ (⟨⟨0, 0⟩, ⟨0, 0⟩⟩ : Ss) _ _ (by simp)).alloc _
  have F2 : Hid (NW (((w.alloc (.cells #[.int .i64 x.l.lo, .int .i64 x.l.hi, .int .i64 x.u.lo, .int .i64 x.u.hi] 101)).alloc (.cells #[.int .i64 0, .int .i64 0, .int .i64 0, .int .i64 0] 80)).alloc (.cells #[.int .i64 0, .int .i64 0, .int .i64 0, .int .i64 0] 80)) (w.heap.size + 2) (⟨⟨0, 0⟩, ⟨0, 0⟩⟩ : Ss)) := NW.at_ _ (⟨⟨0, 0⟩, ⟨0, 0⟩⟩ : Ss) _ _ (by simp)
  have FB : Hid (Below w.heap.size w (((w.alloc (.cells #[.int .i64 x.l.lo, .int .i64 x.l.hi, .int .i64 x.u.lo, .int .i64 x.u.hi] 101)).alloc (.cells #[.int .i64 0, .int .i64 0, .int .i64 0, .int .i64 0] 80)).alloc (.cells #[.int .i64 0, .int .i64 0, .int .i64 0, .int .i64 0] 80))) := (((Below.refl _ _).alloc (Nat.le_refl _) _).alloc (by simp) _).alloc (by simp; omega) _
  go_enter Tryz.func78, Tryz.ntmps78
  go_upto_region 3 with (go_at_call 100; refine (toSpan_any x.l _).mono ?_; rintro e w1 ⟨rfl, hb⟩; have F0 : Hid (NW w1 w.heap.size x) := F0.out.below hb F0.out.lt; have F1 : Hid (NW w1 (w.heap.size + 1) (⟨⟨0, 0⟩, ⟨0, 0⟩⟩ : Ss)) := F1.out.below hb F1.out.lt; have F2 : Hid (NW w1 (w.heap.size + 2) (⟨⟨0, 0⟩, ⟨0, 0⟩⟩ : Ss)) := F2.out.below hb F2.out.lt; have FB : Hid (Below w.heap.size w w1) := FB.out.trans (hb.mono FB.out.size); clear hb; obtain ⟨x0_0, x0_1, x0_2, x0_3, y0_0, y0_1, y0_2, y0_3⟩ := F0.out; obtain ⟨x1_0, x1_1, x1_2, x1_3, y1_0, y1_1, y1_2, y1_3⟩ := F1.out; obtain ⟨x2_0, x2_1, x2_2, x2_3, y2_0, y2_1, y2_2, y2_3⟩ := F2.out; try dsimp only at x1_0 x1_1 x1_2 x1_3 x2_0 x2_1 x2_2 x2_3)
  clear x0_0 x0_1 x0_2 x0_3 y0_0 y0_1 y0_2 y0_3 x1_0 x1_1 x1_2 x1_3 y1_0 y1_1 y1_2 y1_3 x2_0 x2_1 x2_2 x2_3 y2_0 y2_1 y2_2 y2_3
  obtain ⟨W1, hw_⟩ : ∃ W1, W1 = (w1.setCell ⟨w.heap.size + 2, 0, none⟩ (.int .i64 x.l.lo)).setCell ⟨w.heap.size + 2, 1, none⟩ (.int .i64 x.l.hi) := ⟨_, rfl⟩
  rw [← hw_]
  have F0 : Hid (NW W1 w.heap.size x) := by rw [hw_]; exact (F0.out.other (by omega)).other (by omega)
  have F1 : Hid (NW W1 (w.heap.size + 1) (⟨⟨0, 0⟩, ⟨0, 0⟩⟩ : Ss)) := by rw [hw_]; exact (F1.out.other (by omega)).other (by omega)
  have F2 : Hid (NW W1 (w.heap.size + 2) (⟨⟨x.l.lo, x.l.hi⟩, ⟨0, 0⟩⟩ : Ss)) := by rw [hw_]; exact (F2.out.set0 _).set1 _
  have FB : Hid (Below w.heap.size w W1) := by rw [hw_]; exact (FB.out.setCell (by simp) _).setCell (by simp) _
  clear hw_
  obtain ⟨x0_0, x0_1, x0_2, x0_3, y0_0, y0_1, y0_2, y0_3⟩ := F0.out
  obtain ⟨x1_0, x1_1, x1_2, x1_3, y1_0, y1_1, y1_2, y1_3⟩ := F1.out
  obtain ⟨x2_0, x2_1, x2_2, x2_3, y2_0, y2_1, y2_2, y2_3⟩ := F2.out
  try dsimp only at x1_0 x1_1 x1_2 x1_3 x2_0 x2_1 x2_2 x2_3
  go_upto_region 4 with (go_at_call 100; refine (toSpan_any x.u _).mono ?_; rintro e w2 ⟨rfl, hb⟩; have F0 : Hid (NW w2 w.heap.size x) := F0.out.below hb F0.out.lt; have F1 : Hid (NW w2 (w.heap.size + 1) (⟨⟨0, 0⟩, ⟨0, 0⟩⟩ : Ss)) := F1.out.below hb F1.out.lt; have F2 : Hid (NW w2 (w.heap.size + 2) (⟨⟨x.l.lo, x.l.hi⟩, ⟨0, 0⟩⟩ : Ss)) := F2.out.below hb F2.out.lt; have FB : Hid (Below w.heap.size w w2) := FB.out.trans (hb.mono FB.out.size); clear hb; obtain ⟨x0_0, x0_1, x0_2, x0_3, y0_0, y0_1, y0_2, y0_3⟩ := F0.out; obtain ⟨x1_0, x1_1, x1_2, x1_3, y1_0, y1_1, y1_2, y1_3⟩ := F1.out; obtain ⟨x2_0, x2_1, x2_2, x2_3, y2_0, y2_1, y2_2, y2_3⟩ := F2.out; try dsimp only at x1_0 x1_1 x1_2 x1_3 x2_0 x2_1 x2_2 x2_3)
  clear x0_0 x0_1 x0_2 x0_3 y0_0 y0_1 y0_2 y0_3 x1_0 x1_1 x1_2 x1_3 y1_0 y1_1 y1_2 y1_3 x2_0 x2_1 x2_2 x2_3 y2_0 y2_1 y2_2 y2_3
  obtain ⟨W2, hw_⟩ : ∃ W2, W2 = (w2.setCell ⟨w.heap.size + 2, 2, none⟩ (.int .i64 x.u.lo)).setCell ⟨w.heap.size + 2, 3, none⟩ (.int .i64 x.u.hi) := ⟨_, rfl⟩
  rw [← hw_]
  have F0 : Hid (NW W2 w.heap.size x) := by rw [hw_]; exact (F0.out.other (by omega)).other (by omega)
  have F1 : Hid (NW W2 (w.heap.size + 1) (⟨⟨0, 0⟩, ⟨0, 0⟩⟩ : Ss)) := by rw [hw_]; exact (F1.out.other (by omega)).other (by omega)
  have F2 : Hid (NW W2 (w.heap.size + 2) x) := by rw [hw_]; exact (F2.out.set2 _).set3 _
  have FB : Hid (Below w.heap.size w W2) := by rw [hw_]; exact (FB.out.setCell (by simp) _).setCell (by simp) _
  clear hw_
  obtain ⟨x0_0, x0_1, x0_2, x0_3, y0_0, y0_1, y0_2, y0_3⟩ := F0.out
  obtain ⟨x1_0, x1_1, x1_2, x1_3, y1_0, y1_1, y1_2, y1_3⟩ := F1.out
  obtain ⟨x2_0, x2_1, x2_2, x2_3, y2_0, y2_1, y2_2, y2_3⟩ := F2.out
  try dsimp only at x1_0 x1_1 x1_2 x1_3 x2_0 x2_1 x2_2 x2_3
  go_wp2_with fail
  change bodyPost _ _ _ _ _ (putN W2 (w.heap.size + 1) x)
  obtain ⟨Wf, hWf⟩ : ∃ Wf, putN W2 (w.heap.size + 1) x = Wf := ⟨_, rfl⟩
  have HRf : NW Wf (w.heap.size + 1) x := hWf ▸ F1.out.put _
  have HBf : Below w.heap.size w Wf := hWf ▸ below_putN FB.out (by omega) _
  rw [hWf]
  clear hWf
  obtain ⟨d0, d1, d2, d3, -, -, -, -⟩ := HRf
  try dsimp only at d0 d1 d2 d3
  exact bodyPost_ret (v := .agg #[.int .i64 x.l.lo, .int .i64 x.l.hi, .int .i64 x.u.lo, .int .i64 x.u.hi]) (by simp [results, Tryz.results78, go_sem, d0, d1, d2, d3]) rfl ⟨rfl, HBf⟩
set_option maxRecDepth 20000 in
set_option maxHeartbeats 8000000 in
theorem eqSpan_same (x : Sp) (w : World) :
    Calls Tryz.prog 113 #[.agg #[.int .i64 x.lo, .int .i64 x.hi], .agg #[.int .i64 x.lo, .int .i64 x.hi]] w fun e w' => e = .returned (.bool true) ∧ Below w.heap.size w w' := by
  go_enter Tryz.func113, Tryz.ntmps113
  go_wp2
  go_ret
  exact ⟨rfl, by repeat (first | exact Below.refl _ _ | (refine Below.alloc ?_ ?_ _) | (refine Below.setCell ?_ ?_ _) | (simp; omega) | simp)⟩
set_option maxRecDepth 20000 in
set_option maxHeartbeats 8000000 in
theorem eqSpans_same (x : Ss) (w : World) :
    Calls Tryz.prog 92 #[.agg #[.int .i64 x.l.lo, .int .i64 x.l.hi, .int .i64 x.u.lo, .int .i64 x.u.hi], .agg #[.int .i64 x.l.lo, .int .i64 x.l.hi, .int .i64 x.u.lo, .int .i64 x.u.hi]] w fun e w' => e = .returned (.bool true) ∧ Below w.heap.size w w' := by
  have F0 : Hid (NW ((w.alloc (.cells #[.int .i64 x.l.lo, .int .i64 x.l.hi, .int .i64 x.u.lo, .int .i64 x.u.hi] 80)).alloc (.cells #[.int .i64 x.l.lo, .int .i64 x.l.hi, .int .i64 x.u.lo, .int .i64 x.u.hi] 80)) w.heap.size x) := (NW.at_ w x _ _ (by simp)).alloc _
  have F1 : Hid (NW ((w.alloc (.cells #[.int .i64 x.l.lo, .int .i64 x.l.hi, .int .i64 x.u.lo, .int .i64 x.u.hi] 80)).alloc (.cells #[.int .i64 x.l.lo, .int .i64 x.l.hi, .int .i64 x.u.lo, .int .i64 x.u.hi] 80)) (w.heap.size + 1) x) := NW.at_ (w.alloc (.cells #[.int .i64 x.l.lo, .int .i64 x.l.hi, .int .i64 x.u.lo, .int .i64 x.u.hi] 80)) x _ _ (by simp)
  have FB : Hid (Below w.heap.size w ((w.alloc (.cells #[.int .i64 x.l.lo, .int .i64 x.l.hi, .int .i64 x.u.lo, .int .i64 x.u.hi] 80)).alloc (.cells #[.int .i64 x.l.lo, .int .i64 x.l.hi, .int .i64 x.u.lo, .int .i64 x.u.hi] 80))) := (((Below.refl _ _).alloc (Nat.le_refl _) _).alloc (by simp <;> omega) _)
  go_enter Tryz.func92, Tryz.ntmps92
  go_wp2_with (go_at_call 113; refine (eqSpan_same _ _).mono ?_; rintro e w1 ⟨rfl, hb⟩; have F0 : Hid (NW w1 w.heap.size x) := F0.out.below hb F0.out.lt; have F1 : Hid (NW w1 (w.heap.size + 1) x) := F1.out.below hb F1.out.lt; have FB : Hid (Below w.heap.size w w1) := FB.out.trans (hb.mono FB.out.size); obtain ⟨x0_0, x0_1, x0_2, x0_3, y0_0, y0_1, y0_2, y0_3⟩ := F0.out; obtain ⟨x1_0, x1_1, x1_2, x1_3, y1_0, y1_1, y1_2, y1_3⟩ := F1.out; clear hb)
  go_ret
  exact ⟨rfl, FB.out⟩
end Go.Proofs.YtdkikijnjkoddaaGreat
