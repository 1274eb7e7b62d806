/-
  Sensors: how many bits are 1 (the model).
-/
import Derived.Test.YtemiefpkphfpgaaSenA
namespace Go.Proofs.Ytemiefpkphfpgaa
open Go.RowKit Pl
set_option linter.unusedSimpArgs false
set_option linter.unusedVariables false

/-- How many bits are 1. -/
def popc (n : Nat) : Nat := if h : n = 0 then 0 else n % 2 + popc (n / 2)
termination_by n
decreasing_by omega
theorem popc_zero : popc 0 = 0 := by unfold popc; simp
theorem popc_step {n : Nat} (h : n ≠ 0) : popc n = n % 2 + popc (n / 2) := by rw [popc, dif_neg h]
theorem popc_le : ∀ (k n : Nat), n < 2 ^ k → popc n ≤ k := by
  intro k
  induction k with
  | zero => intro n h; have : n = 0 := by omega
            subst this; rw [popc_zero]; omega
  | succ k ih =>
    intro n h
    by_cases z : n = 0
    · subst z; rw [popc_zero]; omega
    · rw [popc_step z]
      have := ih (n / 2) (by rw [Nat.pow_succ] at h; omega)
      omega
theorem w64 {x : Int} (h1 : 0 ≤ x) (h2 : x ≤ 1000) : wrap64 x = x := by unfold wrap64; omega
theorem and_one {x : Nat} (hx : x < 2 ^ 64) : bits BinOp.and IntKind.u64 (x : Int) 1 = ((x % 2 : Nat) : Int) := by
  have q : (BitVec.ofNat 64 x &&& 1#64).toNat = x % 2 := by
    rw [BitVec.toNat_and, BitVec.toNat_ofNat, Nat.mod_eq_of_lt hx]
    exact Nat.and_one_is_mod x
  have l : x % 2 < 2 := Nat.mod_lt _ (by decide)
  simp [bits, IntKind.wrap, IntKind.bits, IntKind.signed]
  refine Eq.trans (congrArg (fun z : Nat => (z : Int) % 18446744073709551616) q) ?_
  show ((x % 2 : Nat) : Int) % 18446744073709551616 = (x : Int) % 2
  omega
def bitsW (w : Int) : Int := popc (IntKind.u64.wrap w).toNat
end Go.Proofs.Ytemiefpkphfpgaa
