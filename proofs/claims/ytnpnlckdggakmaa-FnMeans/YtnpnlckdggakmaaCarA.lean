/-
  The model's car: its fault.
-/
import Derived.Test.YtnpnlckdggakmaaFnd
import Derived.Test.YtnpnlckdggakmaaHouseN
import Derived.Deep.RegionHeld3
namespace Go.Proofs.Ytnpnlckdggakmaa
open Go.RowKit Pl
set_option linter.unusedSimpArgs false

theorem Hs.carC_out {h : Hs} {c : Cs} (e : h.carR c = false) : h.carC c = 3 := by unfold Hs.carC; rw [e]; simp
theorem Hs.carC_form {h : Hs} {c : Cs} (e : h.carR c = true) (n : c.door ≠ 0 ∧ c.vel ≠ 0) : h.carC c = 1 := by unfold Hs.carC; rw [if_pos e, if_pos n]
theorem Hs.carC_ok {h : Hs} {c : Cs} (e : h.carR c = true) (n : ¬ (c.door ≠ 0 ∧ c.vel ≠ 0)) : h.carC c = 0 := by unfold Hs.carC; rw [if_pos e, if_neg n]

end Go.Proofs.Ytnpnlckdggakmaa
