/-
  The model's ledger: who boards.
-/
import Derived.Test.YtnfdplfifpmhoaaGreatDoorPersI
import Derived.Deep.RegionHeld3
namespace Go.Proofs.YtnfdplfifpmhoaaGreatDoor
open Go.RowKit Pl
set_option linter.unusedSimpArgs false
set_option linter.unusedVariables false

theorem gr_drew {a c : World} {row : Option Nat} (h : a.grownBy c row) : a.grownBy c.drew row := ⟨h.os, h.tape, h.output, h.size, h.block⟩
theorem gr_below {a b c : World} {row : Option Nat} (h : a.grownBy b row) (k : Below b.heap.size b c) : a.grownBy c row := ⟨k.os.trans h.os, k.tape.trans h.tape, k.output.trans h.output, Nat.le_trans h.size k.size, fun i hi hne => (k.block i (Nat.lt_of_lt_of_le hi h.size)).trans (h.block i hi hne)⟩
theorem HAt.grown {W w : World} {b : Nat} {h : Hs} {row : Option Nat} (a : HAt W b h) (hg : W.grownBy w row) (hne : some b ≠ row) : HAt w b h := by
  have hc : ∀ o, w.cell? ⟨b, o, none⟩ = W.cell? ⟨b, o, none⟩ := fun o => World.cell?_of_block (w := W) (hg.block b a.lt hne)
  exact ⟨(hc 0).trans a.c0, (hc 1).trans a.c1, (hc 2).trans a.c2, (hc 3).trans a.c3, (hc 4).trans a.c4, (hc 5).trans a.c5, (hc 6).trans a.c6, (hc 7).trans a.c7, (hc 8).trans a.c8, (hc 9).trans a.c9, (hc 10).trans a.c10, (hc 11).trans a.c11⟩
theorem Ow.lt {w : World} {B g n cap : Nat} {l : List Pe} (h : Ow w B g n cap l) : g < w.heap.size := h.bl.2
def boardP (p : Pe) : Pe := ⟨p.id, p.fr, p.tw, p.sh, p.ca, 1, p.pl⟩
/-- Who boards, one behind the other, as long as there is room. -/
def boardS (ld sh ca fl : Int) (l : List Pe) : Nat → List Pe
  | 0 => l
  | k + 1 => match (boardS ld sh ca fl l k)[k]? with
    | some p => if (p.sh = sh ∧ p.ca = ca ∧ p.st = 0 ∧ p.fr = fl) ∧ (cnt 1 sh ca (boardS ld sh ca fl l k) : Int) < ld then (boardS ld sh ca fl l k).set k (boardP p) else boardS ld sh ca fl l k
    | none => boardS ld sh ca fl l k
theorem boardS_next {ld sh ca fl : Int} {l m : List Pe} {k : Nat} {p : Pe} (h : boardS ld sh ca fl l k = m) (hp : m[k]? = some p) : boardS ld sh ca fl l (k + 1) = if (p.sh = sh ∧ p.ca = ca ∧ p.st = 0 ∧ p.fr = fl) ∧ (cnt 1 sh ca m : Int) < ld then m.set k (boardP p) else m := by
  show (match (boardS ld sh ca fl l k)[k]? with | some p => _ | none => _) = _
  rw [h, hp]
def Hs.boardV (h : Hs) (x : Lg) (sh ca fl : Int) : Lg := if (Hs.askd h x sh ca fl) = 0 then ⟨x.nx, boardS h.ld sh ca fl x.ps x.ps.length⟩ else ⟨0, []⟩
end Go.Proofs.YtnfdplfifpmhoaaGreatDoor
