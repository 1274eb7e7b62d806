/-
  The program's fresh shaft, and where a car stands.
-/
import Derived.Test.YtegcacokgjonbabCarJ
import Derived.Test.YtegcacokgjonbabCarV
import Derived.Test.YtegcacokgjonbabCellsP
namespace Go.Proofs.Ytegcacokgjonbab
open Go.RowKit Pl
set_option linter.unusedSimpArgs false
set_option linter.unusedVariables false

theorem Hs.near_in (h : Hs) (c : Cs) (f : Int) : inB (c.pos - h.level f) (-h.lv) h.lv = Hs.near h c f := by
  unfold Hs.near inB absI
  by_cases e : c.pos - h.level f < 0
  · rw [if_pos e]; refine Bool.eq_iff_iff.2 ?_; simp; omega
  · rw [if_neg e]; refine Bool.eq_iff_iff.2 ?_; simp; omega
theorem Hs.near_way (h : Hs) (c : Cs) (f : Int) : inB (h.level f - c.pos) (-h.lv) h.lv = Hs.near h c f := by
  unfold Hs.near inB absI
  by_cases e : c.pos - h.level f < 0
  · rw [if_pos e]; refine Bool.eq_iff_iff.2 ?_; simp; omega
  · rw [if_neg e]; refine Bool.eq_iff_iff.2 ?_; simp; omega
end Go.Proofs.Ytegcacokgjonbab
