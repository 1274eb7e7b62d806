/-
  The model's FarOf.
-/
import Derived.Test.YthfnphbgjfcdaaaProfC
namespace Go.Proofs.Ythfnphbgjfcdaaa
open Go.RowKit Pl
set_option linter.unusedSimpArgs false
set_option linter.unusedVariables false

/-- What FarOf answers: its code, its number. -/
def Hs.farK (h : Hs) (c : Cs) (f : Int) : Int := if h.car c = 0 then (if inB f (-1) h.fl = true then 0 else 3) else h.car c
def Hs.farV (h : Hs) (c : Cs) (f : Int) : Int := if h.car c = 0 ∧ inB f (-1) h.fl = true then (absI (h.level f - c.pos)) else 0
theorem Hs.far_all {P : Int → Int → Prop} (h : Hs) (c : Cs) (f : Int) (h1 : h.car c ≠ 0 → P (h.car c) 0) (h2 : h.car c = 0 → inB f (-1) h.fl = false → P 3 0) (h3 : h.car c = 0 → inB f (-1) h.fl = true → P 0 (absI (h.level f - c.pos))) : P (Hs.farK h c f) (Hs.farV h c f) := by
  unfold Hs.farK Hs.farV
  by_cases k : h.car c = 0
  · cases hi : inB f (-1) h.fl with
    | true => rw [if_pos k, if_pos rfl, if_pos ⟨k, rfl⟩]; exact h3 k hi
    | false => rw [if_pos k, if_neg (by simp), if_neg (by simp)]; exact h2 k hi
  · rw [if_neg k, if_neg (fun e => k e.1)]; exact h1 k
end Go.Proofs.Ythfnphbgjfcdaaa
