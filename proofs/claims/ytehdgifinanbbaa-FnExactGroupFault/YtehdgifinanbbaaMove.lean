/-
  MoveOn and BrakeOn, the program's and the model's.
-/
import Derived.Test.YtehdgifinanbbaaRes
namespace Go.Proofs.Ytehdgifinanbbaa
open Go.RowKit Pl

/-- A speed that was braked. -/
def brk (v b : Int) : Int := if v < 0 then (if v + b < 0 then v + b else 0) else (if 0 < v - b then v - b else 0)

theorem sz_in {n m : Int} (h1 : -m ≤ n) (h2 : n ≤ m) : decide (m < sz n) = false := decide_eq_false (by unfold sz; split <;> omega)
theorem sz_out {n m : Int} (h : n < -m ∨ m < n) : decide (m < sz n) = true := decide_eq_true (by unfold sz; split <;> omega)

theorem brk_bd (v b : Int) (v1 : -2000 ≤ v) (v2 : v ≤ 2000) (b1 : 1 ≤ b) : -2000 ≤ brk v b ∧ brk v b ≤ 2000 := by unfold brk; (repeat' split) <;> omega
theorem topped_brk (v b : Int) (v1 : -2000 ≤ v) (v2 : v ≤ 2000) (b1 : 1 ≤ b) (hm : b < sz v) : topped 0 (sz v - b) (sd v) = brk v b := by
  by_cases h : v < 0
  · rw [sz_neg h] at hm; rw [sz_neg h, sd_neg h]; simp only [topped, brk, if_pos h, if_true]; (repeat' split) <;> omega
  · rw [sz_pos h] at hm; rw [sz_pos h, sd_pos h]; simp only [topped, brk, if_neg h]; (repeat' split) <;> omega
theorem topped_brk0 (v b : Int) (hm : sz v ≤ b) : topped 0 0 (sd v) = brk v b := by
  by_cases h : v < 0
  · rw [sz_neg h] at hm; rw [sd_neg h]; simp only [topped, brk, if_pos h, if_true]; (repeat' split) <;> omega
  · rw [sz_pos h] at hm; rw [sd_pos h]; simp only [topped, brk, if_neg h]; (repeat' split) <;> omega
end Go.Proofs.Ytehdgifinanbbaa
