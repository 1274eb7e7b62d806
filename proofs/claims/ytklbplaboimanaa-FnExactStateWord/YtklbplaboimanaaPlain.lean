/-
  Plain arithmetic of chapter 1, without the program: the size of a number, a number within its top, a quotient that is rounded up, the halving of a range.
-/
namespace Go.Proofs.Ytklbplaboimanaa.Pl

/-- The size of a number. -/
def sz (n : Int) : Int := if n < 0 then -n else n
/-- The side of a number: 0 up, 1 down. -/
def sd (n : Int) : Int := if n < 0 then 1 else 0
/-- A number within the top. -/
def clip (m v : Int) : Int := if v < -m then -m else if m < v then m else v
/-- A size of two words with its side, within the top. -/
def topped (hi lo side : Int) : Int := if hi ≠ 0 ∨ 1000000000000000 < lo then (if side = 1 then -1000000000000000 else 1000000000000000) else (if side = 1 then -lo else lo)

/-- Is a number within bounds? -/
def inB (n low high : Int) : Bool := decide (low ≤ n ∧ n ≤ high)
theorem inB_yes {n low high : Int} (h1 : low ≤ n) (h2 : n ≤ high) : inB n low high = true := decide_eq_true ⟨h1, h2⟩
theorem inB_no {n low high : Int} (h : n < low ∨ high < n) : inB n low high = false := decide_eq_false (by omega)
theorem inB_iff {n low high : Int} : inB n low high = true ↔ low ≤ n ∧ n ≤ high := by unfold inB; simp

theorem sz_neg {n : Int} (h : n < 0) : sz n = -n := by unfold sz; rw [if_pos h]
theorem sz_pos {n : Int} (h : ¬ n < 0) : sz n = n := by unfold sz; rw [if_neg h]
theorem sd_neg {n : Int} (h : n < 0) : sd n = 1 := by unfold sd; rw [if_pos h]
theorem sd_pos {n : Int} (h : ¬ n < 0) : sd n = 0 := by unfold sd; rw [if_neg h]
theorem sd_01 (n : Int) : sd n = 0 ∨ sd n = 1 := by unfold sd; split <;> omega
theorem sz_nonneg (n : Int) : 0 ≤ sz n := by unfold sz; split <;> omega
theorem sz_le (n : Int) (h1 : -9223372036854775808 ≤ n) (h2 : n ≤ 9223372036854775807) : sz n ≤ 9223372036854775808 := by unfold sz; split <;> omega

end Go.Proofs.Ytklbplaboimanaa.Pl
