/-
  The model's ledger: people whose state is turned.
-/
import Derived.Test.YtnfdplfifpmhoaaGreatDoorPersG
import Derived.Test.YtnfdplfifpmhoaaGreatDoorPersA
import Derived.BigGuardPart
namespace Go.Proofs.YtnfdplfifpmhoaaGreatDoor
open Go.RowKit Pl
set_option linter.unusedSimpArgs false
set_option linter.unusedVariables false

theorem turn_at {f : Pe → Pe} {l : List Pe} {i : Nat} {p : Pe} (h : l[i]? = some p) : ((l.take i).map f ++ l.drop i)[i]? = some p := by
  have hi : i < l.length := (List.getElem?_eq_some_iff.1 h).1
  rw [List.getElem?_append_right (by rw [List.length_map, List.length_take]; omega), List.length_map, List.length_take, Nat.min_eq_left (by omega), Nat.sub_self, List.getElem?_drop, Nat.add_zero]
  exact h
theorem turn_set {f : Pe → Pe} {l : List Pe} {i : Nat} {p : Pe} (h : l[i]? = some p) : ((l.take i).map f ++ l.drop i).set i (f p) = (l.take (i + 1)).map f ++ l.drop (i + 1) := by
  have hi : i < l.length := (List.getElem?_eq_some_iff.1 h).1
  have e : l[i] = p := (List.getElem?_eq_some_iff.1 h).2
  rw [List.set_append_right _ _ (by rw [List.length_map, List.length_take]; omega), List.length_map, List.length_take, Nat.min_eq_left (by omega), Nat.sub_self, List.drop_eq_getElem_cons hi, List.set_cons_zero, List.take_succ_eq_append_getElem hi, List.map_append, e]
  simp
theorem turn_keep {f : Pe → Pe} {l : List Pe} {i : Nat} {p : Pe} (h : l[i]? = some p) (k : f p = p) : (l.take i).map f ++ l.drop i = (l.take (i + 1)).map f ++ l.drop (i + 1) := by
  have hi : i < l.length := (List.getElem?_eq_some_iff.1 h).1
  have e : l[i] = p := (List.getElem?_eq_some_iff.1 h).2
  rw [List.drop_eq_getElem_cons hi, List.take_succ_eq_append_getElem hi, List.map_append, e]
  simp [k]
theorem LAt.grown {W w : World} {b : Nat} {nx : Int} {a : Option Addr} {len cap : Nat} {row : Option Nat} (h : LAt W b nx a len cap) (hg : W.grownBy w row) (hne : some b ≠ row) : LAt w b nx a len cap :=
  ⟨(World.cell?_of_block (w := W) (hg.block b h.lt hne)).trans h.c0, (World.cell?_of_block (w := W) (hg.block b h.lt hne)).trans h.c1⟩
theorem grown_set1 (W : World) (g o : Nat) (u : Value) : W.grownBy (W.setCell ⟨g, o, none⟩ u) (some g) := ⟨rfl, rfl, rfl, by simp [World.setCell], fun i _ hne => Below.heap_setCell _ _ _ _ (fun e => hne (by rw [e]))⟩
theorem grown_new (W : World) (o : Obj) (g : Nat) : W.grownBy (W.alloc o) (some g) := World.grownBy_alloc W o _
def dropP (p : Pe) : Pe := if p.st = 0 then ⟨p.id, p.fr, p.tw, p.sh, p.ca, 4, p.pl⟩ else p
def alightP (sh ca fl : Int) (p : Pe) : Pe := if p.sh = sh ∧ p.ca = ca ∧ p.st = 1 ∧ p.tw = fl then ⟨p.id, p.fr, p.tw, p.sh, p.ca, 2, fl⟩ else p
def outP (sh ca fl : Int) (p : Pe) : Pe := if p.sh = sh ∧ p.ca = ca ∧ p.st = 1 then ⟨p.id, p.fr, p.tw, p.sh, p.ca, 3, fl⟩ else p
end Go.Proofs.YtnfdplfifpmhoaaGreatDoor
