/-
  The law's people and ledgers: compared, marked, held.
-/
import Derived.Test.YtonmocgoelkofaaGreatDoorPersC
import Derived.Deep.RegionHeld3
namespace Go.Proofs.YtonmocgoelkofaaGreatDoor
open Go.RowKit Pl
set_option linter.unusedSimpArgs false
set_option linter.unusedVariables false

/-- Marks: one number behind the other. -/
def mark1 (k : Int) (i : Nat) : Pe := ⟨(k + 7 * (i : Int)), (k + 7 * (i : Int)) + 1, (k + 7 * (i : Int)) + 2, (k + 7 * (i : Int)) + 3, (k + 7 * (i : Int)) + 4, (k + 7 * (i : Int)) + 5, (k + 7 * (i : Int)) + 6⟩
def markL (k : Int) (n : Nat) : List Pe := (List.range n).map (mark1 k)
theorem markL_len (k : Int) (n : Nat) : (markL k n).length = n := by simp [markL]
theorem markL_get {k : Int} {n i : Nat} (h : i < n) : (markL k n)[i]? = some (mark1 k i) := by simp [markL, h]
theorem mark_step {k : Int} {l : List Pe} {i : Nat} (h : i < l.length) : (markL k i ++ l.drop i).set i (mark1 k i) = markL k (i + 1) ++ l.drop (i + 1) := by
  rw [List.set_append_right _ _ (by rw [markL_len]; omega), markL_len, Nat.sub_self, List.drop_eq_getElem_cons h, List.set_cons_zero]
  unfold markL
  rw [List.range_succ, List.map_append]
  simp
theorem mark_at {k : Int} {l : List Pe} {i : Nat} {p : Pe} (h : l[i]? = some p) : (markL k i ++ l.drop i)[i]? = some p := by
  rw [List.getElem?_append_right (by rw [markL_len]; omega), markL_len, Nat.sub_self, List.getElem?_drop, Nat.add_zero]
  exact h
theorem grown_putP (W : World) (g o : Nat) (p : Pe) : W.grownBy (putP W g o p) (some g) := by
  have s : ∀ (W : World) (q : Nat) (u : Value), W.grownBy (W.setCell ⟨g, q, none⟩ u) (some g) := fun W q u => ⟨rfl, rfl, rfl, by simp [World.setCell], fun i _ hne => Below.heap_setCell _ _ _ _ (fun e => hne (by rw [e]))⟩
  have t : ∀ {a b c : World}, a.grownBy b (some g) → b.grownBy c (some g) → a.grownBy c (some g) := fun h k => ⟨k.os.trans h.os, k.tape.trans h.tape, k.output.trans h.output, Nat.le_trans h.size k.size, fun i hi hne => (k.block i (Nat.lt_of_lt_of_le hi h.size) hne).trans (h.block i hi hne)⟩
  exact t (t (t (t (t (t (s _ _ _) (s _ _ _)) (s _ _ _)) (s _ _ _)) (s _ _ _)) (s _ _ _)) (s _ _ _)
theorem grown_trans {a b c : World} {row : Option Nat} (h : a.grownBy b row) (k : b.grownBy c row) : a.grownBy c row := ⟨k.os.trans h.os, k.tape.trans h.tape, k.output.trans h.output, Nat.le_trans h.size k.size, fun i hi hne => (k.block i (Nat.lt_of_lt_of_le hi h.size) hne).trans (h.block i hi hne)⟩
/-- Of what was there nothing has turned but the row of v. -/
structure Turn (w w' : World) (v : Value) : Prop where
  g : w.grownBy w' v.ownBlock
theorem Turn.trans {a b c : World} {v : Value} (h : Turn a b v) (k : Turn b c v) : Turn a c v := ⟨grown_trans h.g k.g⟩
theorem Turn.refl (w : World) (v : Value) : Turn w w v := ⟨World.grownBy.refl w _⟩
theorem Turn.below {B : Nat} {a w w' : World} {v : Value} (h : Below B a w) (k : Turn w w' v) (hv : ∀ j, v.ownBlock = some j → B ≤ j) (hB : B ≤ w.heap.size) : Below B a w' := h.grown k.g hB hv
end Go.Proofs.YtonmocgoelkofaaGreatDoor
