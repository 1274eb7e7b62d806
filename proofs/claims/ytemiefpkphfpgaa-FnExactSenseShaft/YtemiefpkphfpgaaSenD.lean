/-
  Sensors: the number whose bits turn one at a time, told again (the model).
-/
import Derived.Test.YtemiefpkphfpgaaSenB
namespace Go.Proofs.Ytemiefpkphfpgaa
open Go.RowKit Pl
set_option linter.unusedSimpArgs false
set_option linter.unusedVariables false

theorem xor_nat {a b : Nat} (ha : a < 65536) (hb : b < 65536) : bits BinOp.xor IntKind.i64 (a : Int) (b : Int) = ((a ^^^ b : Nat) : Int) := by
  have hx : a ^^^ b < 65536 := Nat.xor_lt_two_pow (n := 16) ha hb
  have q : (BitVec.ofNat 64 a ^^^ BitVec.ofNat 64 b).toNat = a ^^^ b := by
    rw [BitVec.toNat_xor, BitVec.toNat_ofNat, BitVec.toNat_ofNat, Nat.mod_eq_of_lt (by omega), Nat.mod_eq_of_lt (by omega)]
  simp [bits, IntKind.wrap, IntKind.bits, IntKind.signed]
  refine Eq.trans (congrArg (fun z : Nat => if 9223372036854775808 ≤ (z : Int) % 18446744073709551616 then (z : Int) % 18446744073709551616 - 18446744073709551616 else (z : Int) % 18446744073709551616) q) ?_
  show (if 9223372036854775808 ≤ ((a ^^^ b : Nat) : Int) % 18446744073709551616 then ((a ^^^ b : Nat) : Int) % 18446744073709551616 - 18446744073709551616 else ((a ^^^ b : Nat) : Int) % 18446744073709551616) = ((a ^^^ b : Nat) : Int)
  rw [if_neg (by omega)]
  omega
/-- A number and all its halves, bit by bit. -/
def fromF : Nat → Nat → Nat
  | 0, _ => 0
  | k + 1, g => if g = 0 then 0 else g ^^^ fromF k (g / 2)
theorem fromF_same : ∀ (k m x : Nat), x ≤ k → x ≤ m → fromF k x = fromF m x
  | 0, 0, _, _, _ => rfl
  | 0, m + 1, x, h, _ => by
    have e : x = 0 := by omega
    subst e
    rfl
  | k + 1, 0, x, _, h => by
    have e : x = 0 := by omega
    subst e
    rfl
  | k + 1, m + 1, x, h1, h2 => by
    show (if x = 0 then 0 else x ^^^ fromF k (x / 2)) = (if x = 0 then 0 else x ^^^ fromF m (x / 2))
    by_cases z : x = 0
    · rw [if_pos z, if_pos z]
    · rw [if_neg z, if_neg z, fromF_same k m (x / 2) (by omega) (by omega)]
def fromG (g : Nat) : Nat := fromF g g
theorem fromG_zero : fromG 0 = 0 := rfl
theorem fromG_step {g : Nat} (h : g ≠ 0) : fromG g = g ^^^ fromG (g / 2) := by
  obtain ⟨k, rfl⟩ : ∃ k, g = k + 1 := ⟨g - 1, by omega⟩
  show (if k + 1 = 0 then 0 else (k + 1) ^^^ fromF k ((k + 1) / 2)) = (k + 1) ^^^ fromF ((k + 1) / 2) ((k + 1) / 2)
  rw [if_neg h, fromF_same k ((k + 1) / 2) ((k + 1) / 2) (by omega) (Nat.le_refl _)]
def fromK (g : Int) : Int := if isCount g = true then 0 else 3
def fromV (g : Int) : Int := if isCount g = true then (fromG g.toNat : Nat) else 0
end Go.Proofs.Ytemiefpkphfpgaa
