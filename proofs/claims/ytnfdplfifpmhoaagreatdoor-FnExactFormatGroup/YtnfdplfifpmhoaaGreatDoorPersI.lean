/-
  The model's ledger: what is asked; DropWaiting, AlightAt, LetOut.
-/
import Derived.Test.YtnfdplfifpmhoaaGreatDoorPersH
import Derived.Test.YtnfdplfifpmhoaaGreatDoorPersF
import Derived.BigGuardPart
namespace Go.Proofs.YtnfdplfifpmhoaaGreatDoor
open Go.RowKit Pl
set_option linter.unusedSimpArgs false
set_option linter.unusedVariables false

/-- A ledger's result that isn't filled yet. -/
structure RL (w : World) (b : Nat) : Prop where
  c0 : w.cell? ⟨b, 0, none⟩ = some (.int .i64 0)
  c1 : w.cell? ⟨b, 1, none⟩ = some (.int .i64 0)
  c2 : w.cell? ⟨b, 2, none⟩ = some (.int .i64 0)
  c3 : w.cell? ⟨b, 3, none⟩ = some (.slice none 0 0)
  f0 : w.frozen? ⟨b, 0, none⟩ = false
  f1 : w.frozen? ⟨b, 1, none⟩ = false
  f2 : w.frozen? ⟨b, 2, none⟩ = false
  f3 : w.frozen? ⟨b, 3, none⟩ = false
theorem RL.lt {w : World} {b : Nat} (a : RL w b) : b < w.heap.size := World.block_lt_of_cell? w _ a.c0
theorem RL.at_ (w : World) (T : TypeId) (b : Nat) (hb : b = w.heap.size) : RL (w.alloc (.cells #[.int .i64 0, .int .i64 0, .int .i64 0, .slice none 0 0] T)) b := by
  subst hb
  constructor <;> simp
theorem RL.of {W w : World} {b : Nat} (a : RL W b) (hc : ∀ o, w.cell? ⟨b, o, none⟩ = W.cell? ⟨b, o, none⟩) (hf : ∀ o, w.frozen? ⟨b, o, none⟩ = W.frozen? ⟨b, o, none⟩) : RL w b :=
  ⟨(hc 0).trans a.c0, (hc 1).trans a.c1, (hc 2).trans a.c2, (hc 3).trans a.c3, (hf 0).trans a.f0, (hf 1).trans a.f1, (hf 2).trans a.f2, (hf 3).trans a.f3⟩
theorem RL.below {W w : World} {b B : Nat} (a : RL W b) (hb : Below B W w) (hB : b < B) : RL w b := a.of (fun o => hb.cell (p := ⟨b, o, none⟩) hB) (fun o => hb.frozen (p := ⟨b, o, none⟩) hB)
theorem RL.alloc {W : World} {b : Nat} (a : RL W b) (o : Obj) : RL (W.alloc o) b := a.below ((Below.refl _ _).alloc (Nat.le_refl _) o) a.lt
theorem RL.grown {W w : World} {b : Nat} {row : Option Nat} (a : RL W b) (hg : W.grownBy w row) (hne : some b ≠ row) : RL w b :=
  a.of (fun o => World.cell?_of_block (w := W) (hg.block b a.lt hne)) (fun o => World.frozen?_of_block (w := W) (hg.block b a.lt hne))
/-- A ledger is answered: its people lie in a row of their own. -/
def isLed (w : World) (k id nx : Int) (l : List Pe) (e : Ending) (w' : World) : Prop := ∃ v, e = .returned (.agg #[.int .i64 k, .int .i64 id, .int .i64 nx, v]) ∧ Own w' w.heap.size v l ∧ Below w.heap.size w w'
theorem own_nil (w : World) (B : Nat) : Own w B (.slice none 0 0) [] := World.ownsRow_nil w B _ 7
def carB (sh ca : Int) : Bool := inB sh 0 2 && inB ca 0 1
def Hs.askd (h : Hs) (x : Lg) (sh ca fl : Int) : Int := if Hs.led h x = 0 then (if carB sh ca = true ∧ inB fl 0 (h.fl - 1) = true then 0 else 3) else Hs.led h x
def Hs.dropV (h : Hs) (x : Lg) : Lg := if (Hs.led h x) = 0 then ⟨x.nx, x.ps.map dropP⟩ else ⟨0, []⟩
def Hs.alightV (h : Hs) (x : Lg) (sh ca fl : Int) : Lg := if (Hs.askd h x sh ca fl) = 0 then ⟨x.nx, x.ps.map (alightP sh ca fl)⟩ else ⟨0, []⟩
def Hs.outV (h : Hs) (x : Lg) (sh ca fl : Int) : Lg := if (Hs.askd h x sh ca fl) = 0 then ⟨x.nx, x.ps.map (outP sh ca fl)⟩ else ⟨0, []⟩
end Go.Proofs.YtnfdplfifpmhoaaGreatDoor
