/-
  cmp.Or over three numbers.
-/
import Derived.Test.YtemiefpkphfpgaaFnd
namespace Go.Proofs.Ytemiefpkphfpgaa
open Go.RowKit Pl
set_option linter.unusedSimpArgs false
set_option linter.unusedVariables false

set_option maxRecDepth 20000 in
set_option maxHeartbeats 8000000 in
theorem or_three (x y z : Int) (b : Nat) (w : World) (c0 : w.cell? ⟨b, 0, none⟩ = some (.int .i64 x)) (c1 : w.cell? ⟨b, 1, none⟩ = some (.int .i64 y)) (c2 : w.cell? ⟨b, 2, none⟩ = some (.int .i64 z)) :
    Calls Try.prog 15 #[.slice (some ⟨b, 0, none⟩) 3 3] w fun e w' => e = .returned (.int .i64 (if x = 0 then (if y = 0 then z else y) else x)) ∧ w' = w := by
  obtain ⟨r, hr⟩ : ∃ r, (if x = 0 then (if y = 0 then z else y) else x) = r := ⟨_, rfl⟩
  rw [hr]
  have HR : Hid ((if x = 0 then (if y = 0 then z else y) else x) = r) := hr
  clear hr
  go_enter Try.func15, Try.ntmps15
  go_wp2
  go_loop [8] (fun i => i = .int .i64 0 ∨ (i = .int .i64 1 ∧ x = 0) ∨ (i = .int .i64 2 ∧ x = 0 ∧ y = 0) ∨ (i = .int .i64 3 ∧ x = 0 ∧ y = 0 ∧ z = 0)) (fun i => (3 - intOf i).toNat)
  case atStart => exact Or.inl rfl
  case round =>
    rcases hrel with h | ⟨h, hx⟩ | ⟨h, hx, hy⟩ | ⟨h, hx, hy, hz⟩
    · subst h
      by_cases hx : x = 0
      · subst hx
        go_wp2
        go_round
        case rel => exact Or.inr (Or.inl (by simp))
        case measure => simp [intOf]
      · have hn : (x != 0) = true := by simpa using hx
        have he : r = x := by rw [← HR.out, if_neg hx]
        subst he
        clear hx HR
        go_wp2
        go_ret
        exact ⟨rfl, rfl⟩
    · subst h
      subst hx
      by_cases hy : y = 0
      · subst hy
        go_wp2
        go_round
        case rel => exact Or.inr (Or.inr (Or.inl (by simp)))
        case measure => simp [intOf]
      · have hn : (y != 0) = true := by simpa using hy
        have he : r = y := by rw [← HR.out, if_pos rfl, if_neg hy]
        subst he
        clear hy HR
        go_wp2
        go_ret
        exact ⟨rfl, rfl⟩
    · subst h
      subst hx
      subst hy
      by_cases hz : z = 0
      · subst hz
        go_wp2
        go_round
        case rel => exact Or.inr (Or.inr (Or.inr (by simp)))
        case measure => simp [intOf]
      · have hn : (z != 0) = true := by simpa using hz
        have he : r = z := by rw [← HR.out, if_pos rfl, if_pos rfl]
        subst he
        clear hz HR
        go_wp2
        go_ret
        exact ⟨rfl, rfl⟩
    · subst h
      subst hx
      subst hy
      subst hz
      have he : r = 0 := by rw [← HR.out, if_pos rfl, if_pos rfl]
      subst he
      clear HR
      go_wp2
      go_ret
      exact ⟨rfl, rfl⟩
end Go.Proofs.Ytemiefpkphfpgaa
