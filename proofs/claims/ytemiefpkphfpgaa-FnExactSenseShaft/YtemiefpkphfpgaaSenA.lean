/-
  Sensors: the model's numbers and bits.
-/
import Derived.Test.YtemiefpkphfpgaaFnd
namespace Go.Proofs.Ytemiefpkphfpgaa
open Go.RowKit Pl
set_option linter.unusedSimpArgs false
set_option linter.unusedVariables false

/-- n and its half, bit by bit: what of them differs. -/
def grayP (n : Int) : Int := bits BinOp.xor .i64 n (n / 2)
def isCount (n : Int) : Bool := inB n 0 65535
def grayK (n : Int) : Int := if isCount n = true then 0 else 3
def grayV (n : Int) : Int := if isCount n = true then grayP n else 0
/-- The shorter way round. -/
def turnP (a b : Int) : Int := if 32767 < b - a then b - a - 65536 else if b - a < -32768 then b - a + 65536 else b - a
def turnK (a b : Int) : Int := if isCount a = true ∧ isCount b = true then 0 else 3
def turnV (a b : Int) : Int := if isCount a = true ∧ isCount b = true then turnP a b else 0
theorem turn_wrap {a b : Int} (a1 : 0 ≤ a) (a2 : a ≤ 65535) (b1 : 0 ≤ b) (b2 : b ≤ 65535) : wrap64 (IntKind.i16.wrap (IntKind.u16.wrap (b - a))) = turnP a b := by
  have h1 : IntKind.u16.wrap (b - a) = (b - a) % 65536 := by simp [IntKind.wrap, IntKind.bits, IntKind.signed]
  have h2 : ∀ x : Int, IntKind.i16.wrap x = if 32768 ≤ x % 65536 then x % 65536 - 65536 else x % 65536 := by intro x; simp [IntKind.wrap, IntKind.bits, IntKind.signed]
  have h3 : ∀ x : Int, -32768 ≤ x → x ≤ 32767 → wrap64 x = x := fun x l u => by unfold wrap64; omega
  rw [h1, h2, h3 _ (by split <;> omega) (by split <;> omega)]
  unfold turnP
  (repeat' split) <;> omega
end Go.Proofs.Ytemiefpkphfpgaa
