/-
  A ledger's result that is laid into a block; what the laws over ledgers ask of it.
-/
import Derived.Test.YtoekhkolakielaaPersJ
import Derived.Test.YtoekhkolakielaaPersL
namespace Go.Proofs.Ytoekhkolakielaa
open Go.RowKit Pl
set_option linter.unusedSimpArgs false
set_option linter.unusedVariables false

/-- .. its slice written out. -/
def isLedS (w : World) (k id nx : Int) (l : List Pe) (e : Ending) (w' : World) : Prop := ∃ a cap, e = .returned (.agg #[.int .i64 k, .int .i64 id, .int .i64 nx, .slice a l.length cap]) ∧ Own w' w.heap.size (.slice a l.length cap) l ∧ Below w.heap.size w w'
theorem isLed.s {w : World} {k id nx : Int} {l : List Pe} {e : Ending} {w' : World} (h : isLed w k id nx l e w') : isLedS w k id nx l e w' := by
  obtain ⟨v, e1, h1, h2⟩ := h
  obtain ⟨a, cap, rfl, -⟩ := h1.pin
  exact ⟨a, cap, e1, h1, h2⟩
theorem Own.pinS {w : World} {B n cap : Nat} {a : Option Addr} {l : List Pe} (h : Own w B (.slice a n cap) l) : PIn w w.heap.size a l := by
  obtain ⟨a', cap', e, hp⟩ := h.pin
  injection e with e1 e2 e3
  subst e1
  exact hp
theorem rows_ne {u v : Option Nat} {g : Nat} (h1 : ∀ k, u = some k → k < g) (h2 : ∀ k, v = some k → g < k) : u = none ∨ u ≠ v := by
  cases u with
  | none => exact Or.inl rfl
  | some j =>
    right
    intro e
    have := h1 j rfl
    have := h2 j e.symm
    omega
theorem ne_row {b g n c : Nat} (h : b ≠ g) : some b ≠ (Value.slice (some ⟨g, 0, none⟩) n c).ownBlock := fun e => h (Option.some.inj e)
/-- A ledger's result lies in the block b. -/
structure LR (w : World) (b : Nat) (k id nx : Int) (v : Value) : Prop where
  c0 : w.cell? ⟨b, 0, none⟩ = some (.int .i64 k)
  c1 : w.cell? ⟨b, 1, none⟩ = some (.int .i64 id)
  c2 : w.cell? ⟨b, 2, none⟩ = some (.int .i64 nx)
  c3 : w.cell? ⟨b, 3, none⟩ = some v
theorem LR.lt {w : World} {b : Nat} {k id nx : Int} {v : Value} (a : LR w b k id nx v) : b < w.heap.size := World.block_lt_of_cell? w _ a.c0
theorem LR.of {W w : World} {b : Nat} {k id nx : Int} {v : Value} (a : LR W b k id nx v) (hc : ∀ o, w.cell? ⟨b, o, none⟩ = W.cell? ⟨b, o, none⟩) : LR w b k id nx v :=
  ⟨(hc 0).trans a.c0, (hc 1).trans a.c1, (hc 2).trans a.c2, (hc 3).trans a.c3⟩
theorem LR.below {W w : World} {b B : Nat} {k id nx : Int} {v : Value} (a : LR W b k id nx v) (hb : Below B W w) (hB : b < B) : LR w b k id nx v := a.of (fun o => hb.cell (p := ⟨b, o, none⟩) hB)
theorem LR.alloc {W : World} {b : Nat} {k id nx : Int} {v : Value} (a : LR W b k id nx v) (o : Obj) : LR (W.alloc o) b k id nx v := a.below ((Below.refl _ _).alloc (Nat.le_refl _) o) a.lt
theorem LR.grown {W w : World} {b : Nat} {k id nx : Int} {v : Value} {row : Option Nat} (a : LR W b k id nx v) (hg : W.grownBy w row) (hne : some b ≠ row) : LR w b k id nx v :=
  a.of (fun o => World.cell?_of_block (w := W) (hg.block b a.lt hne))
def putR (w : World) (b : Nat) (k id nx : Int) (v : Value) : World := (((w.setCell ⟨b, 0, none⟩ (.int .i64 k)).setCell ⟨b, 1, none⟩ (.int .i64 id)).setCell ⟨b, 2, none⟩ (.int .i64 nx)).setCell ⟨b, 3, none⟩ v
theorem RL.put {w : World} {b : Nat} (a : RL w b) (k id nx : Int) (v : Value) : LR (putR w b k id nx v) b k id nx v :=
  ⟨((World.cell?_setCell_other _ _ _ _ (by simp)).trans (((World.cell?_setCell_other _ _ _ _ (by simp)).trans (((World.cell?_setCell_other _ _ _ _ (by simp)).trans ((World.cell?_setCell_same _ _ _ (a.c0)))))))), ((World.cell?_setCell_other _ _ _ _ (by simp)).trans (((World.cell?_setCell_other _ _ _ _ (by simp)).trans ((World.cell?_setCell_same _ _ _ (((World.cell?_setCell_other _ _ _ _ (by simp)).trans (a.c1)))))))), ((World.cell?_setCell_other _ _ _ _ (by simp)).trans ((World.cell?_setCell_same _ _ _ (((World.cell?_setCell_other _ _ _ _ (by simp)).trans (((World.cell?_setCell_other _ _ _ _ (by simp)).trans (a.c2)))))))), (World.cell?_setCell_same _ _ _ (((World.cell?_setCell_other _ _ _ _ (by simp)).trans (((World.cell?_setCell_other _ _ _ _ (by simp)).trans (((World.cell?_setCell_other _ _ _ _ (by simp)).trans (a.c3))))))))⟩
theorem below_putR {B : Nat} {w W : World} (h : Below B w W) {b : Nat} (hb : B ≤ b) (k id nx : Int) (v : Value) : Below B w (putR W b k id nx v) := (((h.setCell hb _).setCell hb _).setCell hb _).setCell hb _
theorem Own.putR {w : World} {B b : Nat} {u : Value} {l : List Pe} (h : Own w B u l) (hne : ∀ j, u.ownBlock = some j → j ≠ b) (k id nx : Int) (v : Value) : Own (putR w b k id nx v) B u l := by
  have e : u.ownBlock ≠ some b := fun e => hne b e rfl
  exact (((h.other (p := ⟨b, 0, none⟩) e _).other (p := ⟨b, 1, none⟩) e _).other (p := ⟨b, 2, none⟩) e _).other (p := ⟨b, 3, none⟩) e _
theorem Ow.putR {w : World} {B g n cap b : Nat} {l : List Pe} (h : Ow w B g n cap l) (hne : g ≠ b) (k id nx : Int) (v : Value) : Ow (putR w b k id nx v) B g n cap l :=
  (((h.other (p := ⟨b, 0, none⟩) hne _).other (p := ⟨b, 1, none⟩) hne _).other (p := ⟨b, 2, none⟩) hne _).other (p := ⟨b, 3, none⟩) hne _
theorem boardS_len (ld sh ca fl : Int) (l : List Pe) (k : Nat) : (boardS ld sh ca fl l k).length = l.length := by
  induction k with
  | zero => rfl
  | succ k ih =>
    unfold boardS
    split
    · split
      · rw [List.length_set, ih]
      · exact ih
    · exact ih
theorem dropV_len (h : Hs) (x : Lg) : (Hs.dropV h x).ps.length ≤ x.ps.length := by unfold Hs.dropV; split <;> simp
theorem alightV_len (h : Hs) (x : Lg) (sh ca fl : Int) : (Hs.alightV h x sh ca fl).ps.length ≤ x.ps.length := by unfold Hs.alightV; split <;> simp
theorem outV_len (h : Hs) (x : Lg) (sh ca fl : Int) : (Hs.outV h x sh ca fl).ps.length ≤ x.ps.length := by unfold Hs.outV; split <;> simp
theorem boardV_len (h : Hs) (x : Lg) (sh ca fl : Int) : (Hs.boardV h x sh ca fl).ps.length ≤ x.ps.length := by
  unfold Hs.boardV
  split
  · exact Nat.le_of_eq (boardS_len _ _ _ _ _ _)
  · simp
end Go.Proofs.Ytoekhkolakielaa
