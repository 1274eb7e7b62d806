/-
  The law's people and ledgers: how many, turned into the program's, compared.
-/
import Derived.Test.YtonmocgoelkofaaGreatDoorFnd
namespace Go.Proofs.YtonmocgoelkofaaGreatDoor
open Go.RowKit Pl
set_option linter.unusedSimpArgs false
set_option linter.unusedVariables false

theorem take_rep {l : List Pe} {i : Nat} {p : Pe} (h : l[i]? = some p) : (l.take i ++ List.replicate (l.length - i) zeroP).set i p = l.take (i + 1) ++ List.replicate (l.length - (i + 1)) zeroP := by
  have hi : i < l.length := (List.getElem?_eq_some_iff.1 h).1
  have e : l[i] = p := (List.getElem?_eq_some_iff.1 h).2
  rw [List.set_append_right _ _ (by rw [List.length_take]; omega), List.length_take, Nat.min_eq_left (by omega), Nat.sub_self]
  rw [show l.length - i = (l.length - (i + 1)) + 1 by omega, List.replicate_succ, List.set_cons_zero, List.take_succ_eq_append_getElem hi, e]
  simp
end Go.Proofs.YtonmocgoelkofaaGreatDoor
