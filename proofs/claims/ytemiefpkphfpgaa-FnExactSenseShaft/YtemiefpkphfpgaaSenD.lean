/-
  Sensors: the number whose bits turn one at a time, told again (the model).
-/
import Derived.Test.YtemiefpkphfpgaaSenB
namespace Go.Proofs.Ytemiefpkphfpgaa
open Go.RowKit Pl
set_option linter.unusedSimpArgs false
set_option linter.unusedVariables false

theorem xor_nat {a b : Nat} (ha : a < 65536) (hb : b < 65536) : bits BinOp.xor IntKind.i64 (a : Int) (b : Int) = ((a ^^^ b : Nat) : Int) := by
  have hx : a ^^^ b < 65536 := Nat.xor_lt_two_pow (n := 16) ha hb
  have q : (BitVec.ofNat 64 a ^^^ BitVec.ofNat 64 b).toNat = a ^^^ b := by
    rw [BitVec.toNat_xor, BitVec.toNat_ofNat, BitVec.toNat_ofNat, Nat.mod_eq_of_lt (by omega), Nat.mod_eq_of_lt (by omega)]
  simp [bits, IntKind.wrap, IntKind.bits, IntKind.signed]
  refine Eq.trans (congrArg (fun z : Nat => if 9223372036854775808 ≤ (z : Int) % 18446744073709551616 then (z : Int) % 18446744073709551616 - 18446744073709551616 else (z : Int) % 18446744073709551616) q) ?_
  show (if 9223372036854775808 ≤ ((a ^^^ b : Nat) : Int) % 18446744073709551616 then ((a ^^^ b : Nat) : Int) % 18446744073709551616 - 18446744073709551616 else ((a ^^^ b : Nat) : Int) % 18446744073709551616) = ((a ^^^ b : Nat) : Int)
  rw [if_neg (by omega)]
  omega
/-- A number and all its halves, bit by bit. -/
def fromG (g : Nat) : Nat := if h : g = 0 then 0 else g ^^^ fromG (g / 2)
termination_by g
decreasing_by omega
theorem fromG_zero : fromG 0 = 0 := by unfold fromG; simp
theorem fromG_step {g : Nat} (h : g ≠ 0) : fromG g = g ^^^ fromG (g / 2) := by rw [fromG, dif_neg h]
def fromK (g : Int) : Int := if isCount g = true then 0 else 3
def fromV (g : Int) : Int := if isCount g = true then (fromG g.toNat : Nat) else 0
end Go.Proofs.Ytemiefpkphfpgaa
