/-
  Sensors: how many bits are 1 (the model).
-/
import Derived.Test.YtemiefpkphfpgaaSenA
namespace Go.Proofs.Ytemiefpkphfpgaa
open Go.RowKit Pl
set_option linter.unusedSimpArgs false
set_option linter.unusedVariables false

/-- How many bits are 1. -/
def popcF : Nat → Nat → Nat
  | 0, _ => 0
  | k + 1, n => if n = 0 then 0 else n % 2 + popcF k (n / 2)
theorem popcF_same : ∀ (k m x : Nat), x ≤ k → x ≤ m → popcF k x = popcF m x
  | 0, 0, _, _, _ => rfl
  | 0, m + 1, x, h, _ => by
    have e : x = 0 := by omega
    subst e
    rfl
  | k + 1, 0, x, _, h => by
    have e : x = 0 := by omega
    subst e
    rfl
  | k + 1, m + 1, x, h1, h2 => by
    show (if x = 0 then 0 else x % 2 + popcF k (x / 2)) = (if x = 0 then 0 else x % 2 + popcF m (x / 2))
    by_cases z : x = 0
    · rw [if_pos z, if_pos z]
    · rw [if_neg z, if_neg z, popcF_same k m (x / 2) (by omega) (by omega)]
def popc (n : Nat) : Nat := popcF n n
theorem popc_zero : popc 0 = 0 := rfl
theorem popc_step {n : Nat} (h : n ≠ 0) : popc n = n % 2 + popc (n / 2) := by
  obtain ⟨k, rfl⟩ : ∃ k, n = k + 1 := ⟨n - 1, by omega⟩
  show (if k + 1 = 0 then 0 else (k + 1) % 2 + popcF k ((k + 1) / 2)) = (k + 1) % 2 + popcF ((k + 1) / 2) ((k + 1) / 2)
  rw [if_neg h, popcF_same k ((k + 1) / 2) ((k + 1) / 2) (by omega) (Nat.le_refl _)]
theorem popc_le : ∀ (k n : Nat), n < 2 ^ k → popc n ≤ k := by
  intro k
  induction k with
  | zero => intro n h; have : n = 0 := by omega
            subst this; rw [popc_zero]; omega
  | succ k ih =>
    intro n h
    by_cases z : n = 0
    · subst z; rw [popc_zero]; omega
    · rw [popc_step z]
      have := ih (n / 2) (by rw [Nat.pow_succ] at h; omega)
      omega
theorem w64 {x : Int} (h1 : 0 ≤ x) (h2 : x ≤ 1000) : wrap64 x = x := by unfold wrap64; omega
theorem and_one {x : Nat} (hx : x < 2 ^ 64) : bits BinOp.and IntKind.u64 (x : Int) 1 = ((x % 2 : Nat) : Int) := by
  have q : (BitVec.ofNat 64 x &&& 1#64).toNat = x % 2 := by
    rw [BitVec.toNat_and, BitVec.toNat_ofNat, Nat.mod_eq_of_lt hx]
    exact Nat.and_one_is_mod x
  have l : x % 2 < 2 := Nat.mod_lt _ (by decide)
  simp [bits, IntKind.wrap, IntKind.bits, IntKind.signed]
  refine Eq.trans (congrArg (fun z : Nat => (z : Int) % 18446744073709551616) q) ?_
  show ((x % 2 : Nat) : Int) % 18446744073709551616 = (x : Int) % 2
  omega
def bitsW (w : Int) : Int := popc (IntKind.u64.wrap w).toNat
end Go.Proofs.Ytemiefpkphfpgaa
