/-
  The word of a state: the model's and the program's.
-/
import Derived.Test.YtnfdplfifpmhoaaGreatDoorFnd
import Derived.Below
namespace Go.Proofs.YtnfdplfifpmhoaaGreatDoor
open Go.RowKit Pl
set_option linter.unusedSimpArgs false
set_option linter.unusedVariables false

/-- The word of a state, byte by byte. -/
def swd (n : Int) : ByteArray := if n = 0 then ⟨#[119, 97, 105, 116, 115]⟩ else if n = 1 then ⟨#[114, 105, 100, 101, 115]⟩ else if n = 2 then ⟨#[116, 104, 101, 114, 101]⟩ else if n = 3 then ⟨#[111, 117, 116]⟩ else if n = 4 then ⟨#[103, 111, 110, 101]⟩ else ⟨#[]⟩
theorem swd_out {n : Int} (h : n < 0 ∨ 4 < n) : swd n = ⟨#[]⟩ := by
  unfold swd
  rw [if_neg (by omega), if_neg (by omega), if_neg (by omega), if_neg (by omega), if_neg (by omega)]

set_option maxHeartbeats 8000000 in
theorem specStateWord_any (n : Int) (w : World) :
    Calls Tryz.prog 14 #[.int .i64 n] w fun e w' => e = .returned (.string (swd n)) ∧ Below w.heap.size w w' := by
  by_cases h : n < 0 ∨ 4 < n
  · have hn : inB n 0 4 = false := by
      cases q : inB n 0 4
      · rfl
      · have := inB_iff.1 q; omega
    rw [swd_out h]
    clear h
    go_enter Tryz.func14, Tryz.ntmps14
    go_wp2_with (go_at_call 31; refine (l1In_any n 0 4 _).mono ?_; rw [hn]; rintro e w' ⟨rfl, hw⟩; obtain rfl := hw.symm; clear hw)
    go_ret
    exact ⟨rfl, Below.refl _ _⟩
  · have hc : n = 0 ∨ n = 1 ∨ n = 2 ∨ n = 3 ∨ n = 4 := by omega
    clear h
    rcases hc with rfl | rfl | rfl | rfl | rfl
    all_goals
      go_enter Tryz.func14, Tryz.ntmps14
      go_wp2_with (go_at_call 31; refine (l1In_any _ 0 4 _).mono ?_; rintro e w' ⟨rfl, hw⟩; obtain rfl := hw.symm; clear hw)
      go_ret
      exact ⟨rfl, (Below.refl _ _).alloc (Nat.le_refl _) _⟩

set_option maxHeartbeats 8000000 in
theorem implStateWord_any (n : Int) (w : World) :
    Calls Tryz.prog 23 #[.int .i64 n] w fun e w' => e = .returned (.string (swd n)) ∧ Below w.heap.size w w' := by
  by_cases h : n < 0 ∨ 4 < n
  · have h0 : (n == 0) = false := by simp; omega
    have h1 : (n == 1) = false := by simp; omega
    have h2 : (n == 2) = false := by simp; omega
    have h3 : (n == 3) = false := by simp; omega
    have h4 : (n == 4) = false := by simp; omega
    rw [swd_out h]
    clear h
    go_enter Tryz.func23, Tryz.ntmps23
    go_wp2_with fail
    go_ret
    exact ⟨rfl, Below.refl _ _⟩
  · have hc : n = 0 ∨ n = 1 ∨ n = 2 ∨ n = 3 ∨ n = 4 := by omega
    clear h
    rcases hc with rfl | rfl | rfl | rfl | rfl
    all_goals
      go_enter Tryz.func23, Tryz.ntmps23
      go_wp2_with fail
      go_ret
      exact ⟨rfl, Below.refl _ _⟩
end Go.Proofs.YtnfdplfifpmhoaaGreatDoor
