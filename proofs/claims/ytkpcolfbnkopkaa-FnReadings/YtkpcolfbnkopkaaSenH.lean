/-
  Sensors: a bit that turned, among the bits that are 1.
-/
import Derived.Test.YtkpcolfbnkopkaaSenD
import Derived.Test.YtkpcolfbnkopkaaSenG
namespace Go.Proofs.Ytkpcolfbnkopkaa
open Go.RowKit Pl
set_option linter.unusedSimpArgs false
set_option linter.unusedVariables false
theorem xor_two (a b : Nat) : (a ^^^ b) % 2 = (a + b) % 2 := by
  have h : (a ^^^ b) % 2 = a % 2 ^^^ b % 2 := Nat.xor_mod_two_pow (n := 1)
  rw [h, Nat.add_mod]
  rcases Nat.mod_two_eq_zero_or_one a with x | x <;> rcases Nat.mod_two_eq_zero_or_one b with y | y <;> rw [x, y] <;> rfl
theorem popc_all (n : Nat) : popc n = n % 2 + popc (n / 2) := by
  by_cases z : n = 0
  · subst z; rw [popc_zero]
  · exact popc_step z
theorem popc_flip : ∀ (k n : Nat), popc (n ^^^ 2 ^ k) = popc n + 1 ∨ popc (n ^^^ 2 ^ k) + 1 = popc n := by
  intro k
  induction k with
  | zero =>
    intro n
    have h1 : (n ^^^ 2 ^ 0) / 2 = n / 2 := by rw [Nat.xor_div_two]; simp
    have h2 : (n ^^^ 2 ^ 0) % 2 = (n + 1) % 2 := by rw [xor_two]
    rw [popc_all (n ^^^ 2 ^ 0), popc_all n, h1, h2]
    omega
  | succ k ih =>
    intro n
    have h1 : (n ^^^ 2 ^ (k + 1)) / 2 = n / 2 ^^^ 2 ^ k := by rw [Nat.xor_div_two, Nat.pow_succ, Nat.mul_div_cancel _ (by decide)]
    have h2 : (n ^^^ 2 ^ (k + 1)) % 2 = n % 2 := by rw [xor_two, Nat.pow_succ]; omega
    rw [popc_all (n ^^^ 2 ^ (k + 1)), popc_all n, h1, h2]
    have := ih (n / 2)
    omega
/-- A word holds its own count. -/
def selfB (x : Nat) : Prop := x % 4 = popc (x / 4) % 4
/-- With one bit turned it no longer does. -/
theorem selfB_flip {x k : Nat} (h : selfB x) : ¬ selfB (x ^^^ 2 ^ k) := by
  unfold selfB at h ⊢
  have d : ∀ y : Nat, (x ^^^ y) / 4 = x / 4 ^^^ y / 4 := by
    intro y
    rw [show 4 = 2 * 2 from rfl, ← Nat.div_div_eq_div_mul, ← Nat.div_div_eq_div_mul, ← Nat.div_div_eq_div_mul, Nat.xor_div_two, Nat.xor_div_two]
  have m : ∀ y : Nat, (x ^^^ y) % 4 = x % 4 ^^^ y % 4 := fun y => Nat.xor_mod_two_pow (n := 2)
  match k with
  | 0 =>
    rw [d, m, show 2 ^ 0 / 4 = 0 from rfl, Nat.xor_zero, show 2 ^ 0 % 4 = 1 from rfl]
    have c : x % 4 < 4 := Nat.mod_lt _ (by decide)
    intro q
    rw [← h] at q
    generalize x % 4 = r at *
    match r, c with
    | 0, _ => revert q; decide
    | 1, _ => revert q; decide
    | 2, _ => revert q; decide
    | 3, _ => revert q; decide
  | 1 =>
    rw [d, m, show 2 ^ 1 / 4 = 0 from rfl, Nat.xor_zero, show 2 ^ 1 % 4 = 2 from rfl]
    have c : x % 4 < 4 := Nat.mod_lt _ (by decide)
    intro q
    rw [← h] at q
    generalize x % 4 = r at *
    match r, c with
    | 0, _ => revert q; decide
    | 1, _ => revert q; decide
    | 2, _ => revert q; decide
    | 3, _ => revert q; decide
  | k + 2 =>
    have e1 : 2 ^ (k + 2) / 4 = 2 ^ k := by rw [Nat.pow_add]; exact Nat.mul_div_cancel _ (by decide)
    have e2 : 2 ^ (k + 2) % 4 = 0 := by rw [Nat.pow_add]; exact Nat.mul_mod_left _ _
    rw [d, m, e1, e2, Nat.xor_zero]
    have := popc_flip k (x / 4)
    omega
/-- From each number to the next: Gray's number told again. -/
theorem gray_half (n : Nat) : (n ^^^ n / 2) / 2 = n / 2 ^^^ n / 2 / 2 := Nat.xor_div_two
theorem fromG_gray : ∀ (N n : Nat), n ≤ N → fromG (n ^^^ n / 2) = n := by
  intro N
  induction N with
  | zero => intro n h; have : n = 0 := by omega
            subst this; exact fromG_zero
  | succ N ih =>
    intro n h
    by_cases z : n = 0
    · subst z; exact fromG_zero
    · have i := ih (n / 2) (by omega)
      have g0 : n ^^^ n / 2 ≠ 0 := by
        intro q
        have := congrArg (fun y => y ^^^ n / 2) q
        simp only [Nat.xor_assoc, Nat.xor_self, Nat.xor_zero, Nat.zero_xor] at this
        omega
      rw [fromG_step g0, gray_half, i, Nat.xor_assoc, Nat.xor_self, Nat.xor_zero]
def grayN (n : Nat) : Nat := n ^^^ n / 2
theorem popc_one : popc 1 = 1 := by rw [popc_all, show 1 / 2 = 0 from rfl, popc_zero]
/-- From each number to the next just one bit turns. -/
theorem gray_next : ∀ (N n : Nat), n ≤ N → popc (grayN n ^^^ grayN (n + 1)) = 1 := by
  intro N
  induction N with
  | zero => intro n h; have : n = 0 := by omega
            subst this; exact popc_one
  | succ N ih =>
    intro n h
    have hd : (grayN n ^^^ grayN (n + 1)) / 2 = grayN (n / 2) ^^^ grayN ((n + 1) / 2) := by
      unfold grayN
      rw [Nat.xor_div_two, Nat.xor_div_two, Nat.xor_div_two]
    have hm : (grayN n ^^^ grayN (n + 1)) % 2 = (n + n / 2 + (n + 1 + (n + 1) / 2)) % 2 := by
      unfold grayN
      have a := xor_two n (n / 2)
      have b := xor_two (n + 1) ((n + 1) / 2)
      rw [xor_two]
      omega
    rw [popc_all, hd, hm]
    rcases Nat.mod_two_eq_zero_or_one n with e | e
    · have e1 : (n + 1) / 2 = n / 2 := by omega
      rw [e1, Nat.xor_self, popc_zero]
      omega
    · have e1 : (n + 1) / 2 = n / 2 + 1 := by omega
      rw [e1, ih (n / 2) (by omega)]
      omega
end Go.Proofs.Ytkpcolfbnkopkaa
