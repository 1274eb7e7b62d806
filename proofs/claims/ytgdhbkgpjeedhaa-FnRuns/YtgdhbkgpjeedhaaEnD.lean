/-
  Books: what a book has, and what is entered.
-/
import Derived.Test.YtgdhbkgpjeedhaaEnB
import Derived.Test.YtgdhbkgpjeedhaaEnC
import Derived.Defers
namespace Go.Proofs.Ytgdhbkgpjeedhaa
open Go.RowKit Pl
set_option linter.unusedSimpArgs false
set_option linter.unusedVariables false

theorem Blk.two {W w : World} {b j k : Nat} {u v : Value} {vs : List Value} (a : Blk W b vs) (hw : w = (W.setCell ⟨b, j, none⟩ u).setCell ⟨b, k, none⟩ v) (hj : j < vs.length) (hk : k < vs.length) : Blk w b ((vs.set j u).set k v) := by
  rw [hw]
  exact (a.set u hj).set v (by rw [List.length_set]; exact hk)
theorem Blk.two_other {W w : World} {b c j k : Nat} {u v : Value} {vs : List Value} (a : Blk W b vs) (hw : w = (W.setCell ⟨c, j, none⟩ u).setCell ⟨c, k, none⟩ v) (hne : b ≠ c) : Blk w b vs := by
  rw [hw]
  exact (a.other hne).other hne
theorem below_two {W0 W w : World} {B c j k : Nat} {u v : Value} (h : Below B W0 W) (hw : w = (W.setCell ⟨c, j, none⟩ u).setCell ⟨c, k, none⟩ v) (hB : B ≤ c) : Below B W0 w := by
  rw [hw]
  exact (h.setCell hB _).setCell hB _
end Go.Proofs.Ytgdhbkgpjeedhaa
