/-
  Sensors: three who vote: two that tell the same are believed; the order of the three is nothing.
-/
import Derived.Test.YtemiefpkphfpgaaSenC
namespace Go.Proofs.Ytemiefpkphfpgaa
open Go.RowKit Pl
set_option linter.unusedSimpArgs false
set_option linter.unusedVariables false
theorem okV_iff {a b c m : Int} : okV a b c m = true ↔ inB a (-1000000000000000) 1000000000000000 = true ∧ inB b (-1000000000000000) 1000000000000000 = true ∧ inB c (-1000000000000000) 1000000000000000 = true ∧ inB m 0 1000000000000000 = true := by
  unfold okV
  simp only [Bool.and_eq_true]
theorem anyN_iff {a b c m : Int} : anyN a b c m = true ↔ (absI (a - b) ≤ m ∨ absI (a - c) ≤ m ∨ absI (b - c) ≤ m) := by
  unfold anyN
  simp only [Bool.or_eq_true, Bool.not_eq_true', decide_eq_false_iff_not, Int.not_lt]
theorem voteK_zero {a b c m : Int} : voteK a b c m = 0 ↔ okV a b c m = true ∧ anyN a b c m = true := by
  unfold voteK
  split
  · split
    · simp [*]
    · simp [*]
  · simp [*]
theorem mid_two (x a : Int) : midI x a x = x := by unfold midI; omega
theorem mid_turn (a b c : Int) : midI c a b = midI a b c := by unfold midI; omega
theorem mid_one (a b c : Int) : midI a b c = a ∨ midI a b c = b ∨ midI a b c = c := by unfold midI; omega
/-- Two that tell the same are believed. -/
theorem vote_two {a b c m x : Int} (h : voteK a b c m = 0) (hx : inB x (-1000000000000000) 1000000000000000 = true) : voteK x a x m = 0 ∧ voteV x a x m = x := by
  obtain ⟨ho, hn⟩ := voteK_zero.1 h
  obtain ⟨oa, ob, oc, om⟩ := okV_iff.1 ho
  have m0 := (inB_iff.1 om).1
  have k : voteK x a x m = 0 := voteK_zero.2 ⟨okV_iff.2 ⟨hx, oa, hx, om⟩, anyN_iff.2 (Or.inr (Or.inl (by rw [Int.sub_self]; unfold absI; omega)))⟩
  exact ⟨k, by unfold voteV; rw [if_pos k]; exact mid_two x a⟩
theorem absI_sym (a b : Int) : absI (a - b) = absI (b - a) := by unfold absI; omega
/-- Their order is nothing. -/
theorem vote_turn {a b c m : Int} (h : voteK a b c m = 0) : voteK c a b m = 0 ∧ voteV c a b m = voteV a b c m := by
  obtain ⟨ho, hn⟩ := voteK_zero.1 h
  obtain ⟨oa, ob, oc, om⟩ := okV_iff.1 ho
  have q := anyN_iff.1 hn
  have k : voteK c a b m = 0 := voteK_zero.2 ⟨okV_iff.2 ⟨oc, oa, ob, om⟩, anyN_iff.2 (by rw [absI_sym c a, absI_sym c b]; omega)⟩
  exact ⟨k, by unfold voteV; rw [if_pos k, if_pos h]; exact mid_turn a b c⟩
/-- The answer is one of the three. -/
theorem vote_one {a b c m : Int} (h : voteK a b c m = 0) : voteV a b c m = a ∨ voteV a b c m = b ∨ voteV a b c m = c := by
  unfold voteV
  rw [if_pos h]
  exact mid_one a b c
end Go.Proofs.Ytemiefpkphfpgaa
