/-
  Energies: what the program answers.
-/
import Derived.Test.YtgdhbkgpjeedhaaEnA
import Derived.Test.YtgdhbkgpjeedhaaCarI
import Derived.Test.YtgdhbkgpjeedhaaFnd
import Derived.Test.YtgdhbkgpjeedhaaHouseK
import Derived.Test.YtgdhbkgpjeedhaaHouseJ
namespace Go.Proofs.Ytgdhbkgpjeedhaa
open Go.RowKit Pl
set_option linter.unusedSimpArgs false
set_option linter.unusedVariables false

def orE (x y : Int) : Int := if x = 0 then y else x
theorem or_both (x y : Int) (b : Nat) (w : World) (c0 : w.cell? ⟨b, 0, none⟩ = some (.int .i64 x)) (c1 : w.cell? ⟨b, 1, none⟩ = some (.int .i64 y)) :
    Calls Try.prog 33 #[.slice (some ⟨b, 0, none⟩) 2 2] w fun e w' => e = .returned (.int .i64 (orE x y)) ∧ w' = w := by
  unfold orE
  by_cases h : x = 0
  · rw [if_pos h]; exact or_second x y h b w c0 c1
  · rw [if_neg h]; exact or_first x y h b w c0 c1
theorem ask_or (h : Hs) (c : Cs) (r : Int) : orE (h.car c) (Hs.massK h r) = Hs.askK h c r := by
  unfold orE Hs.askK
  by_cases k : h.car c = 0
  · rw [if_pos k, if_pos k]
    unfold Hs.massK
    rw [if_pos (Hs.car_zero k).hf]
  · rw [if_neg k, if_neg k]
end Go.Proofs.Ytgdhbkgpjeedhaa
