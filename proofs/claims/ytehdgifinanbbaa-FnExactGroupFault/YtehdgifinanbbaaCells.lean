/-
  Cars, commands and shafts in blocks of their own, which may be written; results that are not filled yet.
-/
import Derived.Test.YtehdgifinanbbaaCar
import Derived.Test.YtehdgifinanbbaaToHouse
namespace Go.Proofs.Ytehdgifinanbbaa
open Go.RowKit Pl

theorem HAt.alloc {W : World} {b : Nat} {h : Hs} (a : HAt W b h) (o : Obj) : HAt (W.alloc o) b h := a.below ((Below.refl _ _).alloc (Nat.le_refl _) o) a.lt
theorem HAt.at_ (w : World) (h : Hs) (T : TypeId) (b : Nat) (hb : b = w.heap.size) : HAt (w.alloc (.cells #[.int .i64 h.fl, .int .i64 h.gp, .int .i64 h.ln, .int .i64 h.rf, .int .i64 h.sp, .int .i64 h.pu, .int .i64 h.br, .int .i64 h.dr, .int .i64 h.lv, .int .i64 h.dO, .int .i64 h.ld, .int .i64 h.qu] T)) b h := by
  subst hb; exact HAt.new w h T

/-- The cells of a block, written out. -/
structure CW (w : World) (b : Nat) (c : Cs) : Prop where
  c0 : w.cell? ⟨b, 0, none⟩ = some (.int .i64 c.pos)
  c1 : w.cell? ⟨b, 1, none⟩ = some (.int .i64 c.vel)
  c2 : w.cell? ⟨b, 2, none⟩ = some (.int .i64 c.door)
  f0 : w.frozen? ⟨b, 0, none⟩ = false
  f1 : w.frozen? ⟨b, 1, none⟩ = false
  f2 : w.frozen? ⟨b, 2, none⟩ = false
theorem CW.lt {w : World} {b : Nat} {c : Cs} (a : CW w b c) : b < w.heap.size := World.block_lt_of_cell? w _ a.c0
theorem CW.at_ (w : World) (c : Cs) (T : TypeId) (b : Nat) (hb : b = w.heap.size) : CW (w.alloc (.cells #[.int .i64 c.pos, .int .i64 c.vel, .int .i64 c.door] T)) b c := by
  subst hb
  constructor <;> simp
theorem CW.of {W w : World} {b : Nat} {c : Cs} (a : CW W b c) (hc : ∀ o, w.cell? ⟨b, o, none⟩ = W.cell? ⟨b, o, none⟩) (hf : ∀ o, w.frozen? ⟨b, o, none⟩ = W.frozen? ⟨b, o, none⟩) : CW w b c :=
  ⟨(hc 0).trans a.c0, (hc 1).trans a.c1, (hc 2).trans a.c2, (hf 0).trans a.f0, (hf 1).trans a.f1, (hf 2).trans a.f2⟩
theorem CW.below {W w : World} {b B : Nat} {c : Cs} (a : CW W b c) (hb : Below B W w) (hB : b < B) : CW w b c :=
  a.of (fun o => hb.cell (p := ⟨b, o, none⟩) hB) (fun o => hb.frozen (p := ⟨b, o, none⟩) hB)
theorem CW.alloc {W : World} {b : Nat} {c : Cs} (a : CW W b c) (o : Obj) : CW (W.alloc o) b c := a.below ((Below.refl _ _).alloc (Nat.le_refl _) o) a.lt
theorem CW.drew {W : World} {b : Nat} {c : Cs} (a : CW W b c) : CW W.drew b c := a.below (Below.refl W.heap.size W).drew a.lt
theorem CW.other {W : World} {b k o : Nat} {u : Value} {c : Cs} (a : CW W b c) (hne : b ≠ k) : CW (W.setCell ⟨k, o, none⟩ u) b c :=
  a.of (fun _ => World.cell?_setCell_other _ _ _ _ (fun e => hne (congrArg Addr.block e).symm)) (fun _ => World.frozen?_setCell _ _ _ _)
theorem CW.set_pos {W : World} {b : Nat} {c : Cs} (a : CW W b c) (y : Int) : CW (W.setCell ⟨b, 0, none⟩ (.int .i64 y)) b { c with pos := y } :=
  ⟨World.cell?_setCell_same _ _ _ a.c0, (World.cell?_setCell_other _ _ _ _ (by simp)).trans a.c1, (World.cell?_setCell_other _ _ _ _ (by simp)).trans a.c2, (World.frozen?_setCell _ _ _ _).trans a.f0, (World.frozen?_setCell _ _ _ _).trans a.f1, (World.frozen?_setCell _ _ _ _).trans a.f2⟩
theorem CW.set_vel {W : World} {b : Nat} {c : Cs} (a : CW W b c) (y : Int) : CW (W.setCell ⟨b, 1, none⟩ (.int .i64 y)) b { c with vel := y } :=
  ⟨(World.cell?_setCell_other _ _ _ _ (by simp)).trans a.c0, World.cell?_setCell_same _ _ _ a.c1, (World.cell?_setCell_other _ _ _ _ (by simp)).trans a.c2, (World.frozen?_setCell _ _ _ _).trans a.f0, (World.frozen?_setCell _ _ _ _).trans a.f1, (World.frozen?_setCell _ _ _ _).trans a.f2⟩
theorem CW.set_door {W : World} {b : Nat} {c : Cs} (a : CW W b c) (y : Int) : CW (W.setCell ⟨b, 2, none⟩ (.int .i64 y)) b { c with door := y } :=
  ⟨(World.cell?_setCell_other _ _ _ _ (by simp)).trans a.c0, (World.cell?_setCell_other _ _ _ _ (by simp)).trans a.c1, World.cell?_setCell_same _ _ _ a.c2, (World.frozen?_setCell _ _ _ _).trans a.f0, (World.frozen?_setCell _ _ _ _).trans a.f1, (World.frozen?_setCell _ _ _ _).trans a.f2⟩

/-- The cells of a block, written out. -/
structure XW (w : World) (b : Nat) (x : Cm) : Prop where
  c0 : w.cell? ⟨b, 0, none⟩ = some (.int .i64 x.push)
  c1 : w.cell? ⟨b, 1, none⟩ = some (.bool x.brk)
  c2 : w.cell? ⟨b, 2, none⟩ = some (.bool x.opn)
  f0 : w.frozen? ⟨b, 0, none⟩ = false
  f1 : w.frozen? ⟨b, 1, none⟩ = false
  f2 : w.frozen? ⟨b, 2, none⟩ = false
theorem XW.lt {w : World} {b : Nat} {x : Cm} (a : XW w b x) : b < w.heap.size := World.block_lt_of_cell? w _ a.c0
theorem XW.at_ (w : World) (x : Cm) (T : TypeId) (b : Nat) (hb : b = w.heap.size) : XW (w.alloc (.cells #[.int .i64 x.push, .bool x.brk, .bool x.opn] T)) b x := by
  subst hb
  constructor <;> simp
theorem XW.of {W w : World} {b : Nat} {x : Cm} (a : XW W b x) (hc : ∀ o, w.cell? ⟨b, o, none⟩ = W.cell? ⟨b, o, none⟩) (hf : ∀ o, w.frozen? ⟨b, o, none⟩ = W.frozen? ⟨b, o, none⟩) : XW w b x :=
  ⟨(hc 0).trans a.c0, (hc 1).trans a.c1, (hc 2).trans a.c2, (hf 0).trans a.f0, (hf 1).trans a.f1, (hf 2).trans a.f2⟩
theorem XW.below {W w : World} {b B : Nat} {x : Cm} (a : XW W b x) (hb : Below B W w) (hB : b < B) : XW w b x :=
  a.of (fun o => hb.cell (p := ⟨b, o, none⟩) hB) (fun o => hb.frozen (p := ⟨b, o, none⟩) hB)
theorem XW.alloc {W : World} {b : Nat} {x : Cm} (a : XW W b x) (o : Obj) : XW (W.alloc o) b x := a.below ((Below.refl _ _).alloc (Nat.le_refl _) o) a.lt
theorem XW.drew {W : World} {b : Nat} {x : Cm} (a : XW W b x) : XW W.drew b x := a.below (Below.refl W.heap.size W).drew a.lt
theorem XW.other {W : World} {b k o : Nat} {u : Value} {x : Cm} (a : XW W b x) (hne : b ≠ k) : XW (W.setCell ⟨k, o, none⟩ u) b x :=
  a.of (fun _ => World.cell?_setCell_other _ _ _ _ (fun e => hne (congrArg Addr.block e).symm)) (fun _ => World.frozen?_setCell _ _ _ _)
theorem XW.set_push {W : World} {b : Nat} {x : Cm} (a : XW W b x) (y : Int) : XW (W.setCell ⟨b, 0, none⟩ (.int .i64 y)) b { x with push := y } :=
  ⟨World.cell?_setCell_same _ _ _ a.c0, (World.cell?_setCell_other _ _ _ _ (by simp)).trans a.c1, (World.cell?_setCell_other _ _ _ _ (by simp)).trans a.c2, (World.frozen?_setCell _ _ _ _).trans a.f0, (World.frozen?_setCell _ _ _ _).trans a.f1, (World.frozen?_setCell _ _ _ _).trans a.f2⟩
theorem XW.set_brk {W : World} {b : Nat} {x : Cm} (a : XW W b x) (y : Bool) : XW (W.setCell ⟨b, 1, none⟩ (.bool y)) b { x with brk := y } :=
  ⟨(World.cell?_setCell_other _ _ _ _ (by simp)).trans a.c0, World.cell?_setCell_same _ _ _ a.c1, (World.cell?_setCell_other _ _ _ _ (by simp)).trans a.c2, (World.frozen?_setCell _ _ _ _).trans a.f0, (World.frozen?_setCell _ _ _ _).trans a.f1, (World.frozen?_setCell _ _ _ _).trans a.f2⟩
theorem XW.set_opn {W : World} {b : Nat} {x : Cm} (a : XW W b x) (y : Bool) : XW (W.setCell ⟨b, 2, none⟩ (.bool y)) b { x with opn := y } :=
  ⟨(World.cell?_setCell_other _ _ _ _ (by simp)).trans a.c0, (World.cell?_setCell_other _ _ _ _ (by simp)).trans a.c1, World.cell?_setCell_same _ _ _ a.c2, (World.frozen?_setCell _ _ _ _).trans a.f0, (World.frozen?_setCell _ _ _ _).trans a.f1, (World.frozen?_setCell _ _ _ _).trans a.f2⟩

/-- The cells of a block, written out. -/
structure SW (w : World) (b : Nat) (s : Sh) : Prop where
  c0 : w.cell? ⟨b, 0, none⟩ = some (.int .i64 s.lo.pos)
  c1 : w.cell? ⟨b, 1, none⟩ = some (.int .i64 s.lo.vel)
  c2 : w.cell? ⟨b, 2, none⟩ = some (.int .i64 s.lo.door)
  c3 : w.cell? ⟨b, 3, none⟩ = some (.int .i64 s.up.pos)
  c4 : w.cell? ⟨b, 4, none⟩ = some (.int .i64 s.up.vel)
  c5 : w.cell? ⟨b, 5, none⟩ = some (.int .i64 s.up.door)
  f0 : w.frozen? ⟨b, 0, none⟩ = false
  f1 : w.frozen? ⟨b, 1, none⟩ = false
  f2 : w.frozen? ⟨b, 2, none⟩ = false
  f3 : w.frozen? ⟨b, 3, none⟩ = false
  f4 : w.frozen? ⟨b, 4, none⟩ = false
  f5 : w.frozen? ⟨b, 5, none⟩ = false
theorem SW.lt {w : World} {b : Nat} {s : Sh} (a : SW w b s) : b < w.heap.size := World.block_lt_of_cell? w _ a.c0
theorem SW.at_ (w : World) (s : Sh) (T : TypeId) (b : Nat) (hb : b = w.heap.size) : SW (w.alloc (.cells #[.int .i64 s.lo.pos, .int .i64 s.lo.vel, .int .i64 s.lo.door, .int .i64 s.up.pos, .int .i64 s.up.vel, .int .i64 s.up.door] T)) b s := by
  subst hb
  constructor <;> simp
theorem SW.of {W w : World} {b : Nat} {s : Sh} (a : SW W b s) (hc : ∀ o, w.cell? ⟨b, o, none⟩ = W.cell? ⟨b, o, none⟩) (hf : ∀ o, w.frozen? ⟨b, o, none⟩ = W.frozen? ⟨b, o, none⟩) : SW w b s :=
  ⟨(hc 0).trans a.c0, (hc 1).trans a.c1, (hc 2).trans a.c2, (hc 3).trans a.c3, (hc 4).trans a.c4, (hc 5).trans a.c5, (hf 0).trans a.f0, (hf 1).trans a.f1, (hf 2).trans a.f2, (hf 3).trans a.f3, (hf 4).trans a.f4, (hf 5).trans a.f5⟩
theorem SW.below {W w : World} {b B : Nat} {s : Sh} (a : SW W b s) (hb : Below B W w) (hB : b < B) : SW w b s :=
  a.of (fun o => hb.cell (p := ⟨b, o, none⟩) hB) (fun o => hb.frozen (p := ⟨b, o, none⟩) hB)
theorem SW.alloc {W : World} {b : Nat} {s : Sh} (a : SW W b s) (o : Obj) : SW (W.alloc o) b s := a.below ((Below.refl _ _).alloc (Nat.le_refl _) o) a.lt
theorem SW.drew {W : World} {b : Nat} {s : Sh} (a : SW W b s) : SW W.drew b s := a.below (Below.refl W.heap.size W).drew a.lt
theorem SW.other {W : World} {b k o : Nat} {u : Value} {s : Sh} (a : SW W b s) (hne : b ≠ k) : SW (W.setCell ⟨k, o, none⟩ u) b s :=
  a.of (fun _ => World.cell?_setCell_other _ _ _ _ (fun e => hne (congrArg Addr.block e).symm)) (fun _ => World.frozen?_setCell _ _ _ _)

/-- The cells of a block, written out. -/
structure R2 (w : World) (b : Nat) : Prop where
  c0 : w.cell? ⟨b, 0, none⟩ = some (.int .i64 0)
  c1 : w.cell? ⟨b, 1, none⟩ = some (.int .i64 0)
  f0 : w.frozen? ⟨b, 0, none⟩ = false
  f1 : w.frozen? ⟨b, 1, none⟩ = false
theorem R2.lt {w : World} {b : Nat} (a : R2 w b) : b < w.heap.size := World.block_lt_of_cell? w _ a.c0
theorem R2.at_ (w : World) (T : TypeId) (b : Nat) (hb : b = w.heap.size) : R2 (w.alloc (.cells #[.int .i64 0, .int .i64 0] T)) b := by
  subst hb
  constructor <;> simp
theorem R2.of {W w : World} {b : Nat} (a : R2 W b) (hc : ∀ o, w.cell? ⟨b, o, none⟩ = W.cell? ⟨b, o, none⟩) (hf : ∀ o, w.frozen? ⟨b, o, none⟩ = W.frozen? ⟨b, o, none⟩) : R2 w b :=
  ⟨(hc 0).trans a.c0, (hc 1).trans a.c1, (hf 0).trans a.f0, (hf 1).trans a.f1⟩
theorem R2.below {W w : World} {b B : Nat} (a : R2 W b) (hb : Below B W w) (hB : b < B) : R2 w b :=
  a.of (fun o => hb.cell (p := ⟨b, o, none⟩) hB) (fun o => hb.frozen (p := ⟨b, o, none⟩) hB)
theorem R2.alloc {W : World} {b : Nat} (a : R2 W b) (o : Obj) : R2 (W.alloc o) b := a.below ((Below.refl _ _).alloc (Nat.le_refl _) o) a.lt
theorem R2.drew {W : World} {b : Nat} (a : R2 W b) : R2 W.drew b := a.below (Below.refl W.heap.size W).drew a.lt
theorem R2.other {W : World} {b k o : Nat} {u : Value} (a : R2 W b) (hne : b ≠ k) : R2 (W.setCell ⟨k, o, none⟩ u) b :=
  a.of (fun _ => World.cell?_setCell_other _ _ _ _ (fun e => hne (congrArg Addr.block e).symm)) (fun _ => World.frozen?_setCell _ _ _ _)

/-- The cells of a block, written out. -/
structure R3 (w : World) (b : Nat) : Prop where
  c0 : w.cell? ⟨b, 0, none⟩ = some (.int .i64 0)
  c1 : w.cell? ⟨b, 1, none⟩ = some (.int .i64 0)
  c2 : w.cell? ⟨b, 2, none⟩ = some (.int .i64 0)
  f0 : w.frozen? ⟨b, 0, none⟩ = false
  f1 : w.frozen? ⟨b, 1, none⟩ = false
  f2 : w.frozen? ⟨b, 2, none⟩ = false
theorem R3.lt {w : World} {b : Nat} (a : R3 w b) : b < w.heap.size := World.block_lt_of_cell? w _ a.c0
theorem R3.at_ (w : World) (T : TypeId) (b : Nat) (hb : b = w.heap.size) : R3 (w.alloc (.cells #[.int .i64 0, .int .i64 0, .int .i64 0] T)) b := by
  subst hb
  constructor <;> simp
theorem R3.of {W w : World} {b : Nat} (a : R3 W b) (hc : ∀ o, w.cell? ⟨b, o, none⟩ = W.cell? ⟨b, o, none⟩) (hf : ∀ o, w.frozen? ⟨b, o, none⟩ = W.frozen? ⟨b, o, none⟩) : R3 w b :=
  ⟨(hc 0).trans a.c0, (hc 1).trans a.c1, (hc 2).trans a.c2, (hf 0).trans a.f0, (hf 1).trans a.f1, (hf 2).trans a.f2⟩
theorem R3.below {W w : World} {b B : Nat} (a : R3 W b) (hb : Below B W w) (hB : b < B) : R3 w b :=
  a.of (fun o => hb.cell (p := ⟨b, o, none⟩) hB) (fun o => hb.frozen (p := ⟨b, o, none⟩) hB)
theorem R3.alloc {W : World} {b : Nat} (a : R3 W b) (o : Obj) : R3 (W.alloc o) b := a.below ((Below.refl _ _).alloc (Nat.le_refl _) o) a.lt
theorem R3.drew {W : World} {b : Nat} (a : R3 W b) : R3 W.drew b := a.below (Below.refl W.heap.size W).drew a.lt
theorem R3.other {W : World} {b k o : Nat} {u : Value} (a : R3 W b) (hne : b ≠ k) : R3 (W.setCell ⟨k, o, none⟩ u) b :=
  a.of (fun _ => World.cell?_setCell_other _ _ _ _ (fun e => hne (congrArg Addr.block e).symm)) (fun _ => World.frozen?_setCell _ _ _ _)

/-- The cells of a block, written out. -/
structure R4 (w : World) (b : Nat) : Prop where
  c0 : w.cell? ⟨b, 0, none⟩ = some (.int .i64 0)
  c1 : w.cell? ⟨b, 1, none⟩ = some (.int .i64 0)
  c2 : w.cell? ⟨b, 2, none⟩ = some (.int .i64 0)
  c3 : w.cell? ⟨b, 3, none⟩ = some (.int .i64 0)
  f0 : w.frozen? ⟨b, 0, none⟩ = false
  f1 : w.frozen? ⟨b, 1, none⟩ = false
  f2 : w.frozen? ⟨b, 2, none⟩ = false
  f3 : w.frozen? ⟨b, 3, none⟩ = false
theorem R4.lt {w : World} {b : Nat} (a : R4 w b) : b < w.heap.size := World.block_lt_of_cell? w _ a.c0
theorem R4.at_ (w : World) (T : TypeId) (b : Nat) (hb : b = w.heap.size) : R4 (w.alloc (.cells #[.int .i64 0, .int .i64 0, .int .i64 0, .int .i64 0] T)) b := by
  subst hb
  constructor <;> simp
theorem R4.of {W w : World} {b : Nat} (a : R4 W b) (hc : ∀ o, w.cell? ⟨b, o, none⟩ = W.cell? ⟨b, o, none⟩) (hf : ∀ o, w.frozen? ⟨b, o, none⟩ = W.frozen? ⟨b, o, none⟩) : R4 w b :=
  ⟨(hc 0).trans a.c0, (hc 1).trans a.c1, (hc 2).trans a.c2, (hc 3).trans a.c3, (hf 0).trans a.f0, (hf 1).trans a.f1, (hf 2).trans a.f2, (hf 3).trans a.f3⟩
theorem R4.below {W w : World} {b B : Nat} (a : R4 W b) (hb : Below B W w) (hB : b < B) : R4 w b :=
  a.of (fun o => hb.cell (p := ⟨b, o, none⟩) hB) (fun o => hb.frozen (p := ⟨b, o, none⟩) hB)
theorem R4.alloc {W : World} {b : Nat} (a : R4 W b) (o : Obj) : R4 (W.alloc o) b := a.below ((Below.refl _ _).alloc (Nat.le_refl _) o) a.lt
theorem R4.drew {W : World} {b : Nat} (a : R4 W b) : R4 W.drew b := a.below (Below.refl W.heap.size W).drew a.lt
theorem R4.other {W : World} {b k o : Nat} {u : Value} (a : R4 W b) (hne : b ≠ k) : R4 (W.setCell ⟨k, o, none⟩ u) b :=
  a.of (fun _ => World.cell?_setCell_other _ _ _ _ (fun e => hne (congrArg Addr.block e).symm)) (fun _ => World.frozen?_setCell _ _ _ _)

/-- The cells of a block, written out. -/
structure R6 (w : World) (b : Nat) : Prop where
  c0 : w.cell? ⟨b, 0, none⟩ = some (.int .i64 0)
  c1 : w.cell? ⟨b, 1, none⟩ = some (.int .i64 0)
  c2 : w.cell? ⟨b, 2, none⟩ = some (.int .i64 0)
  c3 : w.cell? ⟨b, 3, none⟩ = some (.int .i64 0)
  c4 : w.cell? ⟨b, 4, none⟩ = some (.int .i64 0)
  c5 : w.cell? ⟨b, 5, none⟩ = some (.int .i64 0)
  f0 : w.frozen? ⟨b, 0, none⟩ = false
  f1 : w.frozen? ⟨b, 1, none⟩ = false
  f2 : w.frozen? ⟨b, 2, none⟩ = false
  f3 : w.frozen? ⟨b, 3, none⟩ = false
  f4 : w.frozen? ⟨b, 4, none⟩ = false
  f5 : w.frozen? ⟨b, 5, none⟩ = false
theorem R6.lt {w : World} {b : Nat} (a : R6 w b) : b < w.heap.size := World.block_lt_of_cell? w _ a.c0
theorem R6.at_ (w : World) (T : TypeId) (b : Nat) (hb : b = w.heap.size) : R6 (w.alloc (.cells #[.int .i64 0, .int .i64 0, .int .i64 0, .int .i64 0, .int .i64 0, .int .i64 0] T)) b := by
  subst hb
  constructor <;> simp
theorem R6.of {W w : World} {b : Nat} (a : R6 W b) (hc : ∀ o, w.cell? ⟨b, o, none⟩ = W.cell? ⟨b, o, none⟩) (hf : ∀ o, w.frozen? ⟨b, o, none⟩ = W.frozen? ⟨b, o, none⟩) : R6 w b :=
  ⟨(hc 0).trans a.c0, (hc 1).trans a.c1, (hc 2).trans a.c2, (hc 3).trans a.c3, (hc 4).trans a.c4, (hc 5).trans a.c5, (hf 0).trans a.f0, (hf 1).trans a.f1, (hf 2).trans a.f2, (hf 3).trans a.f3, (hf 4).trans a.f4, (hf 5).trans a.f5⟩
theorem R6.below {W w : World} {b B : Nat} (a : R6 W b) (hb : Below B W w) (hB : b < B) : R6 w b :=
  a.of (fun o => hb.cell (p := ⟨b, o, none⟩) hB) (fun o => hb.frozen (p := ⟨b, o, none⟩) hB)
theorem R6.alloc {W : World} {b : Nat} (a : R6 W b) (o : Obj) : R6 (W.alloc o) b := a.below ((Below.refl _ _).alloc (Nat.le_refl _) o) a.lt
theorem R6.drew {W : World} {b : Nat} (a : R6 W b) : R6 W.drew b := a.below (Below.refl W.heap.size W).drew a.lt
theorem R6.other {W : World} {b k o : Nat} {u : Value} (a : R6 W b) (hne : b ≠ k) : R6 (W.setCell ⟨k, o, none⟩ u) b :=
  a.of (fun _ => World.cell?_setCell_other _ _ _ _ (fun e => hne (congrArg Addr.block e).symm)) (fun _ => World.frozen?_setCell _ _ _ _)

/-- The cells of a block, written out. -/
structure R7 (w : World) (b : Nat) : Prop where
  c0 : w.cell? ⟨b, 0, none⟩ = some (.int .i64 0)
  c1 : w.cell? ⟨b, 1, none⟩ = some (.int .i64 0)
  c2 : w.cell? ⟨b, 2, none⟩ = some (.int .i64 0)
  c3 : w.cell? ⟨b, 3, none⟩ = some (.int .i64 0)
  c4 : w.cell? ⟨b, 4, none⟩ = some (.int .i64 0)
  c5 : w.cell? ⟨b, 5, none⟩ = some (.int .i64 0)
  c6 : w.cell? ⟨b, 6, none⟩ = some (.int .i64 0)
  f0 : w.frozen? ⟨b, 0, none⟩ = false
  f1 : w.frozen? ⟨b, 1, none⟩ = false
  f2 : w.frozen? ⟨b, 2, none⟩ = false
  f3 : w.frozen? ⟨b, 3, none⟩ = false
  f4 : w.frozen? ⟨b, 4, none⟩ = false
  f5 : w.frozen? ⟨b, 5, none⟩ = false
  f6 : w.frozen? ⟨b, 6, none⟩ = false
theorem R7.lt {w : World} {b : Nat} (a : R7 w b) : b < w.heap.size := World.block_lt_of_cell? w _ a.c0
theorem R7.at_ (w : World) (T : TypeId) (b : Nat) (hb : b = w.heap.size) : R7 (w.alloc (.cells #[.int .i64 0, .int .i64 0, .int .i64 0, .int .i64 0, .int .i64 0, .int .i64 0, .int .i64 0] T)) b := by
  subst hb
  constructor <;> simp
theorem R7.of {W w : World} {b : Nat} (a : R7 W b) (hc : ∀ o, w.cell? ⟨b, o, none⟩ = W.cell? ⟨b, o, none⟩) (hf : ∀ o, w.frozen? ⟨b, o, none⟩ = W.frozen? ⟨b, o, none⟩) : R7 w b :=
  ⟨(hc 0).trans a.c0, (hc 1).trans a.c1, (hc 2).trans a.c2, (hc 3).trans a.c3, (hc 4).trans a.c4, (hc 5).trans a.c5, (hc 6).trans a.c6, (hf 0).trans a.f0, (hf 1).trans a.f1, (hf 2).trans a.f2, (hf 3).trans a.f3, (hf 4).trans a.f4, (hf 5).trans a.f5, (hf 6).trans a.f6⟩
theorem R7.below {W w : World} {b B : Nat} (a : R7 W b) (hb : Below B W w) (hB : b < B) : R7 w b :=
  a.of (fun o => hb.cell (p := ⟨b, o, none⟩) hB) (fun o => hb.frozen (p := ⟨b, o, none⟩) hB)
theorem R7.alloc {W : World} {b : Nat} (a : R7 W b) (o : Obj) : R7 (W.alloc o) b := a.below ((Below.refl _ _).alloc (Nat.le_refl _) o) a.lt
theorem R7.drew {W : World} {b : Nat} (a : R7 W b) : R7 W.drew b := a.below (Below.refl W.heap.size W).drew a.lt
theorem R7.other {W : World} {b k o : Nat} {u : Value} (a : R7 W b) (hne : b ≠ k) : R7 (W.setCell ⟨k, o, none⟩ u) b :=
  a.of (fun _ => World.cell?_setCell_other _ _ _ _ (fun e => hne (congrArg Addr.block e).symm)) (fun _ => World.frozen?_setCell _ _ _ _)

/-- A car, stored as the lower (o = 0) or the upper (o = 3) one of a shaft in the block b. -/
def putLo (W : World) (b : Nat) (c : Cs) : World := ((W.setCell ⟨b, 0, none⟩ (.int .i64 c.pos)).setCell ⟨b, 1, none⟩ (.int .i64 c.vel)).setCell ⟨b, 2, none⟩ (.int .i64 c.door)
def putUp (W : World) (b : Nat) (c : Cs) : World := ((W.setCell ⟨b, 3, none⟩ (.int .i64 c.pos)).setCell ⟨b, 4, none⟩ (.int .i64 c.vel)).setCell ⟨b, 5, none⟩ (.int .i64 c.door)
theorem R6.lo {W : World} {b : Nat} (a : R6 W b) (c : Cs) : SW (putLo W b c) b ⟨c, ⟨0, 0, 0⟩⟩ :=
  ⟨((World.cell?_setCell_other _ _ _ _ (by simp)).trans (((World.cell?_setCell_other _ _ _ _ (by simp)).trans ((World.cell?_setCell_same _ _ _ (a.c0)))))), ((World.cell?_setCell_other _ _ _ _ (by simp)).trans ((World.cell?_setCell_same _ _ _ (((World.cell?_setCell_other _ _ _ _ (by simp)).trans (a.c1)))))), (World.cell?_setCell_same _ _ _ (((World.cell?_setCell_other _ _ _ _ (by simp)).trans (((World.cell?_setCell_other _ _ _ _ (by simp)).trans (a.c2)))))), ((World.cell?_setCell_other _ _ _ _ (by simp)).trans (((World.cell?_setCell_other _ _ _ _ (by simp)).trans (((World.cell?_setCell_other _ _ _ _ (by simp)).trans (a.c3)))))), ((World.cell?_setCell_other _ _ _ _ (by simp)).trans (((World.cell?_setCell_other _ _ _ _ (by simp)).trans (((World.cell?_setCell_other _ _ _ _ (by simp)).trans (a.c4)))))), ((World.cell?_setCell_other _ _ _ _ (by simp)).trans (((World.cell?_setCell_other _ _ _ _ (by simp)).trans (((World.cell?_setCell_other _ _ _ _ (by simp)).trans (a.c5)))))), (World.frozen?_setCell _ _ _ _).trans ((World.frozen?_setCell _ _ _ _).trans ((World.frozen?_setCell _ _ _ _).trans (a.f0))), (World.frozen?_setCell _ _ _ _).trans ((World.frozen?_setCell _ _ _ _).trans ((World.frozen?_setCell _ _ _ _).trans (a.f1))), (World.frozen?_setCell _ _ _ _).trans ((World.frozen?_setCell _ _ _ _).trans ((World.frozen?_setCell _ _ _ _).trans (a.f2))), (World.frozen?_setCell _ _ _ _).trans ((World.frozen?_setCell _ _ _ _).trans ((World.frozen?_setCell _ _ _ _).trans (a.f3))), (World.frozen?_setCell _ _ _ _).trans ((World.frozen?_setCell _ _ _ _).trans ((World.frozen?_setCell _ _ _ _).trans (a.f4))), (World.frozen?_setCell _ _ _ _).trans ((World.frozen?_setCell _ _ _ _).trans ((World.frozen?_setCell _ _ _ _).trans (a.f5)))⟩
theorem SW.up_ {W : World} {b : Nat} {s : Sh} (a : SW W b s) (c : Cs) : SW (putUp W b c) b ⟨s.lo, c⟩ :=
  ⟨((World.cell?_setCell_other _ _ _ _ (by simp)).trans (((World.cell?_setCell_other _ _ _ _ (by simp)).trans (((World.cell?_setCell_other _ _ _ _ (by simp)).trans (a.c0)))))), ((World.cell?_setCell_other _ _ _ _ (by simp)).trans (((World.cell?_setCell_other _ _ _ _ (by simp)).trans (((World.cell?_setCell_other _ _ _ _ (by simp)).trans (a.c1)))))), ((World.cell?_setCell_other _ _ _ _ (by simp)).trans (((World.cell?_setCell_other _ _ _ _ (by simp)).trans (((World.cell?_setCell_other _ _ _ _ (by simp)).trans (a.c2)))))), ((World.cell?_setCell_other _ _ _ _ (by simp)).trans (((World.cell?_setCell_other _ _ _ _ (by simp)).trans ((World.cell?_setCell_same _ _ _ (a.c3)))))), ((World.cell?_setCell_other _ _ _ _ (by simp)).trans ((World.cell?_setCell_same _ _ _ (((World.cell?_setCell_other _ _ _ _ (by simp)).trans (a.c4)))))), (World.cell?_setCell_same _ _ _ (((World.cell?_setCell_other _ _ _ _ (by simp)).trans (((World.cell?_setCell_other _ _ _ _ (by simp)).trans (a.c5)))))), (World.frozen?_setCell _ _ _ _).trans ((World.frozen?_setCell _ _ _ _).trans ((World.frozen?_setCell _ _ _ _).trans (a.f0))), (World.frozen?_setCell _ _ _ _).trans ((World.frozen?_setCell _ _ _ _).trans ((World.frozen?_setCell _ _ _ _).trans (a.f1))), (World.frozen?_setCell _ _ _ _).trans ((World.frozen?_setCell _ _ _ _).trans ((World.frozen?_setCell _ _ _ _).trans (a.f2))), (World.frozen?_setCell _ _ _ _).trans ((World.frozen?_setCell _ _ _ _).trans ((World.frozen?_setCell _ _ _ _).trans (a.f3))), (World.frozen?_setCell _ _ _ _).trans ((World.frozen?_setCell _ _ _ _).trans ((World.frozen?_setCell _ _ _ _).trans (a.f4))), (World.frozen?_setCell _ _ _ _).trans ((World.frozen?_setCell _ _ _ _).trans ((World.frozen?_setCell _ _ _ _).trans (a.f5)))⟩
def put6 (W : World) (b : Nat) (s : Sh) : World := ((((((W.setCell ⟨b, 0, none⟩ (.int .i64 s.lo.pos)).setCell ⟨b, 1, none⟩ (.int .i64 s.lo.vel)).setCell ⟨b, 2, none⟩ (.int .i64 s.lo.door)).setCell ⟨b, 3, none⟩ (.int .i64 s.up.pos)).setCell ⟨b, 4, none⟩ (.int .i64 s.up.vel)).setCell ⟨b, 5, none⟩ (.int .i64 s.up.door))
theorem R6.put {W : World} {b : Nat} (a : R6 W b) (s : Sh) : SW (put6 W b s) b s :=
  ⟨((World.cell?_setCell_other _ _ _ _ (by simp)).trans (((World.cell?_setCell_other _ _ _ _ (by simp)).trans (((World.cell?_setCell_other _ _ _ _ (by simp)).trans (((World.cell?_setCell_other _ _ _ _ (by simp)).trans (((World.cell?_setCell_other _ _ _ _ (by simp)).trans ((World.cell?_setCell_same _ _ _ (a.c0)))))))))))), ((World.cell?_setCell_other _ _ _ _ (by simp)).trans (((World.cell?_setCell_other _ _ _ _ (by simp)).trans (((World.cell?_setCell_other _ _ _ _ (by simp)).trans (((World.cell?_setCell_other _ _ _ _ (by simp)).trans ((World.cell?_setCell_same _ _ _ (((World.cell?_setCell_other _ _ _ _ (by simp)).trans (a.c1)))))))))))), ((World.cell?_setCell_other _ _ _ _ (by simp)).trans (((World.cell?_setCell_other _ _ _ _ (by simp)).trans (((World.cell?_setCell_other _ _ _ _ (by simp)).trans ((World.cell?_setCell_same _ _ _ (((World.cell?_setCell_other _ _ _ _ (by simp)).trans (((World.cell?_setCell_other _ _ _ _ (by simp)).trans (a.c2)))))))))))), ((World.cell?_setCell_other _ _ _ _ (by simp)).trans (((World.cell?_setCell_other _ _ _ _ (by simp)).trans ((World.cell?_setCell_same _ _ _ (((World.cell?_setCell_other _ _ _ _ (by simp)).trans (((World.cell?_setCell_other _ _ _ _ (by simp)).trans (((World.cell?_setCell_other _ _ _ _ (by simp)).trans (a.c3)))))))))))), ((World.cell?_setCell_other _ _ _ _ (by simp)).trans ((World.cell?_setCell_same _ _ _ (((World.cell?_setCell_other _ _ _ _ (by simp)).trans (((World.cell?_setCell_other _ _ _ _ (by simp)).trans (((World.cell?_setCell_other _ _ _ _ (by simp)).trans (((World.cell?_setCell_other _ _ _ _ (by simp)).trans (a.c4)))))))))))), (World.cell?_setCell_same _ _ _ (((World.cell?_setCell_other _ _ _ _ (by simp)).trans (((World.cell?_setCell_other _ _ _ _ (by simp)).trans (((World.cell?_setCell_other _ _ _ _ (by simp)).trans (((World.cell?_setCell_other _ _ _ _ (by simp)).trans (((World.cell?_setCell_other _ _ _ _ (by simp)).trans (a.c5)))))))))))), (World.frozen?_setCell _ _ _ _).trans ((World.frozen?_setCell _ _ _ _).trans ((World.frozen?_setCell _ _ _ _).trans ((World.frozen?_setCell _ _ _ _).trans ((World.frozen?_setCell _ _ _ _).trans ((World.frozen?_setCell _ _ _ _).trans (a.f0)))))), (World.frozen?_setCell _ _ _ _).trans ((World.frozen?_setCell _ _ _ _).trans ((World.frozen?_setCell _ _ _ _).trans ((World.frozen?_setCell _ _ _ _).trans ((World.frozen?_setCell _ _ _ _).trans ((World.frozen?_setCell _ _ _ _).trans (a.f1)))))), (World.frozen?_setCell _ _ _ _).trans ((World.frozen?_setCell _ _ _ _).trans ((World.frozen?_setCell _ _ _ _).trans ((World.frozen?_setCell _ _ _ _).trans ((World.frozen?_setCell _ _ _ _).trans ((World.frozen?_setCell _ _ _ _).trans (a.f2)))))), (World.frozen?_setCell _ _ _ _).trans ((World.frozen?_setCell _ _ _ _).trans ((World.frozen?_setCell _ _ _ _).trans ((World.frozen?_setCell _ _ _ _).trans ((World.frozen?_setCell _ _ _ _).trans ((World.frozen?_setCell _ _ _ _).trans (a.f3)))))), (World.frozen?_setCell _ _ _ _).trans ((World.frozen?_setCell _ _ _ _).trans ((World.frozen?_setCell _ _ _ _).trans ((World.frozen?_setCell _ _ _ _).trans ((World.frozen?_setCell _ _ _ _).trans ((World.frozen?_setCell _ _ _ _).trans (a.f4)))))), (World.frozen?_setCell _ _ _ _).trans ((World.frozen?_setCell _ _ _ _).trans ((World.frozen?_setCell _ _ _ _).trans ((World.frozen?_setCell _ _ _ _).trans ((World.frozen?_setCell _ _ _ _).trans ((World.frozen?_setCell _ _ _ _).trans (a.f5))))))⟩
theorem below_putLo {B : Nat} {w W : World} (h : Below B w W) {b : Nat} (hb : B ≤ b) (c : Cs) : Below B w (putLo W b c) := (((h.setCell hb _).setCell hb _).setCell hb _)
theorem below_putUp {B : Nat} {w W : World} (h : Below B w W) {b : Nat} (hb : B ≤ b) (c : Cs) : Below B w (putUp W b c) := (((h.setCell hb _).setCell hb _).setCell hb _)
theorem below_put6 {B : Nat} {w W : World} (h : Below B w W) {b : Nat} (hb : B ≤ b) (s : Sh) : Below B w (put6 W b s) := ((((((h.setCell hb _).setCell hb _).setCell hb _).setCell hb _).setCell hb _).setCell hb _)
theorem SW.putLo {W : World} {b k : Nat} {s : Sh} (a : SW W b s) (hne : b ≠ k) (c : Cs) : SW (putLo W k c) b s := ((a.other hne).other hne).other hne
theorem SW.putUp {W : World} {b k : Nat} {s : Sh} (a : SW W b s) (hne : b ≠ k) (c : Cs) : SW (putUp W k c) b s := ((a.other hne).other hne).other hne
theorem R6.putLo {W : World} {b k : Nat} (a : R6 W b) (hne : b ≠ k) (c : Cs) : R6 (putLo W k c) b := ((a.other hne).other hne).other hne
theorem R6.putUp {W : World} {b k : Nat} (a : R6 W b) (hne : b ≠ k) (c : Cs) : R6 (putUp W k c) b := ((a.other hne).other hne).other hne

/-- A code and a shaft, stored into the block b. -/
def put7 (W : World) (b : Nat) (k : Int) (s : Sh) : World := (((((((W.setCell ⟨b, 0, none⟩ (.int .i64 k)).setCell ⟨b, 1, none⟩ (.int .i64 s.lo.pos)).setCell ⟨b, 2, none⟩ (.int .i64 s.lo.vel)).setCell ⟨b, 3, none⟩ (.int .i64 s.lo.door)).setCell ⟨b, 4, none⟩ (.int .i64 s.up.pos)).setCell ⟨b, 5, none⟩ (.int .i64 s.up.vel)).setCell ⟨b, 6, none⟩ (.int .i64 s.up.door))
structure V7 (w : World) (b : Nat) (k : Int) (s : Sh) : Prop where
  c0 : w.cell? ⟨b, 0, none⟩ = some (.int .i64 k)
  c1 : w.cell? ⟨b, 1, none⟩ = some (.int .i64 s.lo.pos)
  c2 : w.cell? ⟨b, 2, none⟩ = some (.int .i64 s.lo.vel)
  c3 : w.cell? ⟨b, 3, none⟩ = some (.int .i64 s.lo.door)
  c4 : w.cell? ⟨b, 4, none⟩ = some (.int .i64 s.up.pos)
  c5 : w.cell? ⟨b, 5, none⟩ = some (.int .i64 s.up.vel)
  c6 : w.cell? ⟨b, 6, none⟩ = some (.int .i64 s.up.door)
structure V4 (w : World) (b : Nat) (k : Int) (c : Cs) : Prop where
  c0 : w.cell? ⟨b, 0, none⟩ = some (.int .i64 k)
  c1 : w.cell? ⟨b, 1, none⟩ = some (.int .i64 c.pos)
  c2 : w.cell? ⟨b, 2, none⟩ = some (.int .i64 c.vel)
  c3 : w.cell? ⟨b, 3, none⟩ = some (.int .i64 c.door)
theorem V4.lt {w : World} {b : Nat} {k : Int} {c : Cs} (a : V4 w b k c) : b < w.heap.size := World.block_lt_of_cell? w _ a.c0
theorem V4.new (w : World) (k : Int) (c : Cs) (T : TypeId) : V4 (w.alloc (.cells #[.int .i64 k, .int .i64 c.pos, .int .i64 c.vel, .int .i64 c.door] T)) w.heap.size k c := by
  constructor <;> simp
theorem V4.below {W w : World} {b B : Nat} {k : Int} {c : Cs} (a : V4 W b k c) (hb : Below B W w) (hB : b < B) : V4 w b k c :=
  ⟨(hb.cell (p := ⟨b, 0, none⟩) hB).trans a.c0, (hb.cell (p := ⟨b, 1, none⟩) hB).trans a.c1, (hb.cell (p := ⟨b, 2, none⟩) hB).trans a.c2, (hb.cell (p := ⟨b, 3, none⟩) hB).trans a.c3⟩
theorem V4.alloc {W : World} {b : Nat} {k : Int} {c : Cs} (a : V4 W b k c) (o : Obj) : V4 (W.alloc o) b k c := a.below ((Below.refl _ _).alloc (Nat.le_refl _) o) a.lt
theorem V7.lt {w : World} {b : Nat} {k : Int} {s : Sh} (a : V7 w b k s) : b < w.heap.size := World.block_lt_of_cell? w _ a.c0
theorem V7.new (w : World) (k : Int) (s : Sh) (T : TypeId) : V7 (w.alloc (.cells #[.int .i64 k, .int .i64 s.lo.pos, .int .i64 s.lo.vel, .int .i64 s.lo.door, .int .i64 s.up.pos, .int .i64 s.up.vel, .int .i64 s.up.door] T)) w.heap.size k s := by
  constructor <;> simp
theorem V7.below {W w : World} {b B : Nat} {k : Int} {s : Sh} (a : V7 W b k s) (hb : Below B W w) (hB : b < B) : V7 w b k s :=
  ⟨(hb.cell (p := ⟨b, 0, none⟩) hB).trans a.c0, (hb.cell (p := ⟨b, 1, none⟩) hB).trans a.c1, (hb.cell (p := ⟨b, 2, none⟩) hB).trans a.c2, (hb.cell (p := ⟨b, 3, none⟩) hB).trans a.c3, (hb.cell (p := ⟨b, 4, none⟩) hB).trans a.c4, (hb.cell (p := ⟨b, 5, none⟩) hB).trans a.c5, (hb.cell (p := ⟨b, 6, none⟩) hB).trans a.c6⟩
theorem V7.alloc {W : World} {b : Nat} {k : Int} {s : Sh} (a : V7 W b k s) (o : Obj) : V7 (W.alloc o) b k s := a.below ((Below.refl _ _).alloc (Nat.le_refl _) o) a.lt
theorem VAt.alloc {W : World} {b : Nat} {c v : Int} (a : VAt W b c v) (o : Obj) : VAt (W.alloc o) b c v := a.below ((Below.refl _ _).alloc (Nat.le_refl _) o) a.lt
theorem R7.put {W : World} {b : Nat} (a : R7 W b) (k : Int) (s : Sh) : V7 (put7 W b k s) b k s :=
  ⟨((World.cell?_setCell_other _ _ _ _ (by simp)).trans (((World.cell?_setCell_other _ _ _ _ (by simp)).trans (((World.cell?_setCell_other _ _ _ _ (by simp)).trans (((World.cell?_setCell_other _ _ _ _ (by simp)).trans (((World.cell?_setCell_other _ _ _ _ (by simp)).trans (((World.cell?_setCell_other _ _ _ _ (by simp)).trans ((World.cell?_setCell_same _ _ _ (a.c0)))))))))))))), ((World.cell?_setCell_other _ _ _ _ (by simp)).trans (((World.cell?_setCell_other _ _ _ _ (by simp)).trans (((World.cell?_setCell_other _ _ _ _ (by simp)).trans (((World.cell?_setCell_other _ _ _ _ (by simp)).trans (((World.cell?_setCell_other _ _ _ _ (by simp)).trans ((World.cell?_setCell_same _ _ _ (((World.cell?_setCell_other _ _ _ _ (by simp)).trans (a.c1)))))))))))))), ((World.cell?_setCell_other _ _ _ _ (by simp)).trans (((World.cell?_setCell_other _ _ _ _ (by simp)).trans (((World.cell?_setCell_other _ _ _ _ (by simp)).trans (((World.cell?_setCell_other _ _ _ _ (by simp)).trans ((World.cell?_setCell_same _ _ _ (((World.cell?_setCell_other _ _ _ _ (by simp)).trans (((World.cell?_setCell_other _ _ _ _ (by simp)).trans (a.c2)))))))))))))), ((World.cell?_setCell_other _ _ _ _ (by simp)).trans (((World.cell?_setCell_other _ _ _ _ (by simp)).trans (((World.cell?_setCell_other _ _ _ _ (by simp)).trans ((World.cell?_setCell_same _ _ _ (((World.cell?_setCell_other _ _ _ _ (by simp)).trans (((World.cell?_setCell_other _ _ _ _ (by simp)).trans (((World.cell?_setCell_other _ _ _ _ (by simp)).trans (a.c3)))))))))))))), ((World.cell?_setCell_other _ _ _ _ (by simp)).trans (((World.cell?_setCell_other _ _ _ _ (by simp)).trans ((World.cell?_setCell_same _ _ _ (((World.cell?_setCell_other _ _ _ _ (by simp)).trans (((World.cell?_setCell_other _ _ _ _ (by simp)).trans (((World.cell?_setCell_other _ _ _ _ (by simp)).trans (((World.cell?_setCell_other _ _ _ _ (by simp)).trans (a.c4)))))))))))))), ((World.cell?_setCell_other _ _ _ _ (by simp)).trans ((World.cell?_setCell_same _ _ _ (((World.cell?_setCell_other _ _ _ _ (by simp)).trans (((World.cell?_setCell_other _ _ _ _ (by simp)).trans (((World.cell?_setCell_other _ _ _ _ (by simp)).trans (((World.cell?_setCell_other _ _ _ _ (by simp)).trans (((World.cell?_setCell_other _ _ _ _ (by simp)).trans (a.c5)))))))))))))), (World.cell?_setCell_same _ _ _ (((World.cell?_setCell_other _ _ _ _ (by simp)).trans (((World.cell?_setCell_other _ _ _ _ (by simp)).trans (((World.cell?_setCell_other _ _ _ _ (by simp)).trans (((World.cell?_setCell_other _ _ _ _ (by simp)).trans (((World.cell?_setCell_other _ _ _ _ (by simp)).trans (((World.cell?_setCell_other _ _ _ _ (by simp)).trans (a.c6))))))))))))))⟩
theorem below_put7 {B : Nat} {w W : World} (h : Below B w W) {b : Nat} (hb : B ≤ b) (k : Int) (s : Sh) : Below B w (put7 W b k s) := (((((((h.setCell hb _).setCell hb _).setCell hb _).setCell hb _).setCell hb _).setCell hb _).setCell hb _)
end Go.Proofs.Ytehdgifinanbbaa
