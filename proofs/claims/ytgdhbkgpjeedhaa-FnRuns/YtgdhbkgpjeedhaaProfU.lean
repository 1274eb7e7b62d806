/-
  RunTo and CommandFor: what the model answers at every argument; answers that are the same.
-/
import Derived.Test.YtgdhbkgpjeedhaaProfS
import Derived.Test.YtgdhbkgpjeedhaaCellsX
import Derived.Test.YtgdhbkgpjeedhaaCarT
namespace Go.Proofs.Ytgdhbkgpjeedhaa
open Go.RowKit Pl

/-- What RunTo answers: its code, its ticks, its car. -/
def Hs.runA (h : Hs) (c : Cs) (f t : Int) : Int × Int × Cs :=
  if h.car c = 0 then (if inB f (-1) h.fl = true ∧ inB t 0 3000 = true then (if c.door = 0 then Hs.runK h f t t.toNat c 0 else (1, 0, ⟨0, 0, 0⟩)) else (3, 0, ⟨0, 0, 0⟩)) else (h.car c, 0, ⟨0, 0, 0⟩)
theorem Hs.run_all {P : Int → Int → Cs → Prop} (h : Hs) (c : Cs) (f t : Int) (h1 : h.car c ≠ 0 → P (h.car c) 0 ⟨0, 0, 0⟩) (h2 : h.car c = 0 → inB f (-1) h.fl = false → P 3 0 ⟨0, 0, 0⟩) (h3 : h.car c = 0 → inB f (-1) h.fl = true → inB t 0 3000 = false → P 3 0 ⟨0, 0, 0⟩)
    (h4 : h.car c = 0 → inB f (-1) h.fl = true → inB t 0 3000 = true → c.door ≠ 0 → P 1 0 ⟨0, 0, 0⟩) (h5 : h.car c = 0 → inB f (-1) h.fl = true → inB t 0 3000 = true → c.door = 0 → ∀ R, Hs.runK h f t t.toNat c 0 = R → P R.1 R.2.1 R.2.2) : P (Hs.runA h c f t).1 (Hs.runA h c f t).2.1 (Hs.runA h c f t).2.2 := by
  unfold Hs.runA
  by_cases k : h.car c = 0
  · rw [if_pos k]
    cases hi : inB f (-1) h.fl with
    | false => rw [if_neg (by simp)]; exact h2 k hi
    | true =>
      cases ht : inB t 0 3000 with
      | false => rw [if_neg (by simp)]; exact h3 k hi ht
      | true =>
        rw [if_pos (by simp)]
        by_cases dz : c.door = 0
        · rw [if_pos dz]; exact h5 k hi ht dz _ rfl
        · rw [if_neg dz]; exact h4 k hi ht dz
  · rw [if_neg k]; exact h1 k
end Go.Proofs.Ytgdhbkgpjeedhaa
