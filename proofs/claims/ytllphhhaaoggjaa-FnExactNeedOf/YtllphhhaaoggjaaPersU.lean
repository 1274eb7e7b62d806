/-
  What is needed, laid into a block.
-/
import Derived.Test.YtllphhhaaoggjaaPersT
namespace Go.Proofs.Ytllphhhaaoggjaa
open Go.RowKit Pl
set_option linter.unusedSimpArgs false
set_option linter.unusedVariables false

/-- What is needed lies in the block b. -/
structure NR (w : World) (b : Nat) (r : Int × Int × Int) : Prop where
  c0 : w.cell? ⟨b, 0, none⟩ = some (.int .i64 r.1)
  c1 : w.cell? ⟨b, 1, none⟩ = some (.int .i64 r.2.1)
  c2 : w.cell? ⟨b, 2, none⟩ = some (.int .i64 r.2.2)
theorem NR.lt {w : World} {b : Nat} {r : Int × Int × Int} (a : NR w b r) : b < w.heap.size := World.block_lt_of_cell? w _ a.c0
theorem NR.of {W w : World} {b : Nat} {r : Int × Int × Int} (a : NR W b r) (hc : ∀ o, w.cell? ⟨b, o, none⟩ = W.cell? ⟨b, o, none⟩) : NR w b r := ⟨(hc 0).trans a.c0, (hc 1).trans a.c1, (hc 2).trans a.c2⟩
theorem NR.below {W w : World} {b B : Nat} {r : Int × Int × Int} (a : NR W b r) (hb : Below B W w) (hB : b < B) : NR w b r := a.of (fun o => hb.cell (p := ⟨b, o, none⟩) hB)
theorem NR.alloc {W : World} {b : Nat} {r : Int × Int × Int} (a : NR W b r) (o : Obj) : NR (W.alloc o) b r := a.below ((Below.refl _ _).alloc (Nat.le_refl _) o) a.lt
def putN (w : World) (b : Nat) (r : Int × Int × Int) : World := ((w.setCell ⟨b, 0, none⟩ (.int .i64 r.1)).setCell ⟨b, 1, none⟩ (.int .i64 r.2.1)).setCell ⟨b, 2, none⟩ (.int .i64 r.2.2)
theorem R3.putN {W : World} {b : Nat} (a : R3 W b) (r : Int × Int × Int) : NR (putN W b r) b r :=
  ⟨(World.cell?_setCell_other _ _ _ _ (by simp)).trans ((World.cell?_setCell_other _ _ _ _ (by simp)).trans (World.cell?_setCell_same _ _ _ a.c0)),
   (World.cell?_setCell_other _ _ _ _ (by simp)).trans (World.cell?_setCell_same _ _ _ ((World.cell?_setCell_other _ _ _ _ (by simp)).trans a.c1)),
   World.cell?_setCell_same _ _ _ ((World.cell?_setCell_other _ _ _ _ (by simp)).trans ((World.cell?_setCell_other _ _ _ _ (by simp)).trans a.c2))⟩
theorem below_putN {B : Nat} {w W : World} (h : Below B w W) {b : Nat} (hb : B ≤ b) (r : Int × Int × Int) : Below B w (putN W b r) := ((h.setCell hb _).setCell hb _).setCell hb _
theorem Ow.putN {w : World} {B g n cap b : Nat} {l : List Pe} (h : Ow w B g n cap l) (hne : g ≠ b) (r : Int × Int × Int) : Ow (putN w b r) B g n cap l :=
  ((h.other (p := ⟨b, 0, none⟩) hne _).other (p := ⟨b, 1, none⟩) hne _).other (p := ⟨b, 2, none⟩) hne _
end Go.Proofs.Ytllphhhaaoggjaa
