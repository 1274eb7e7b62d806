/-
  The model's ledger: a copy; rows that are turned.
-/
import Derived.Test.YtnfdplfifpmhoaaGreatDoorPersD
import Derived.Test.YtnfdplfifpmhoaaGreatDoorFnd
namespace Go.Proofs.YtnfdplfifpmhoaaGreatDoor
open Go.RowKit Pl
set_option linter.unusedSimpArgs false
set_option linter.unusedVariables false

theorem Own.base {w : World} {B C : Nat} {v : Value} {l : List Pe} (h : Own w B v l) (hC : C ≤ B) : Own w C v l := by
  refine ⟨h.1, ?_⟩
  rcases h.2 with hn | ⟨g, cap, cur, e, hB, rest⟩
  · exact Or.inl hn
  · exact Or.inr ⟨g, cap, cur, e, Nat.le_trans hC hB, rest⟩
theorem LW.grown {W w : World} {b : Nat} {nx : Int} {v : Value} {row : Option Nat} (a : LW W b nx v) (hg : W.grownBy w row) (hne : some b ≠ row) : LW w b nx v :=
  a.of (fun o => World.cell?_of_block (w := W) (hg.block b a.lt hne)) (fun o => World.frozen?_of_block (w := W) (hg.block b a.lt hne))
theorem news_at {w : World} {b o : Nat} {l : List Pe} (h : ∀ i p, l[i]? = some p → P7 w b (o + i * 7) p) : ∀ j u, (flat l)[j]? = some u → w.cell? ((⟨b, o, none⟩ : Addr).add j) = some u := by
  intro j u hu
  have hj : j < l.length * 7 := by
    rw [← flat_length]
    exact (List.getElem?_eq_some_iff.1 hu).1
  have e : j = j / 7 * 7 + j % 7 := by omega
  have h3 : j % 7 < 7 := Nat.mod_lt _ (by omega)
  obtain ⟨p, hp⟩ : ∃ p, l[j / 7]? = some p := ⟨_, List.getElem?_eq_getElem (by omega)⟩
  have h2 := flat_get hp h3
  rw [← e, hu] at h2
  obtain ⟨c0, c1, c2, c3, c4, c5, c6⟩ := h (j / 7) p hp
  have ea : (⟨b, o, none⟩ : Addr).add j = ⟨b, o + j, none⟩ := by simp [Addr.add]
  rw [ea]
  have ej : o + j = o + j / 7 * 7 + j % 7 := by omega
  rw [ej, h2]
  have : j % 7 = 0 ∨ j % 7 = 1 ∨ j % 7 = 2 ∨ j % 7 = 3 ∨ j % 7 = 4 ∨ j % 7 = 5 ∨ j % 7 = 6 := by omega
  rcases this with q | q | q | q | q | q | q <;> rw [q]
  · exact c0
  · exact c1
  · exact c2
  · exact c3
  · exact c4
  · exact c5
  · exact c6
theorem own_empty (w : World) (B : Nat) (hB : B ≤ w.heap.size) : Own (w.alloc (.cells #[] 58)) B (.slice (some ⟨w.heap.size, 0, none⟩) 0 0) [] :=
  World.ownsRow_made (base := B) (e := 58) (size := 7) w #[] 0 hB (by unfold maxLen; omega) rfl
end Go.Proofs.YtnfdplfifpmhoaaGreatDoor
