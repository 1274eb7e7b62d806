/-
  Sensors: the program's counts.
-/
import Derived.Test.YtemiefpkphfpgaaSenD
import Derived.Test.YtemiefpkphfpgaaInts
namespace Go.Proofs.Ytemiefpkphfpgaa
open Go.RowKit Pl
set_option linter.unusedSimpArgs false
set_option linter.unusedVariables false

theorem ret_bool {a b : Bool} (h : a = b) : Ending.returned (.bool a) = .returned (.bool b) := by rw [h]
/-- Are all of them counts? -/
def allC (l : List Int) : Bool := l.all isCount
theorem allC_take {l : List Int} {i : Nat} {x : Int} (h : l[i]? = some x) : allC (l.take (i + 1)) = (allC (l.take i) && isCount x) := by
  have hi : i < l.length := (List.getElem?_eq_some_iff.1 h).1
  have e : l[i] = x := (List.getElem?_eq_some_iff.1 h).2
  unfold allC
  rw [List.take_succ_eq_append_getElem hi, e, List.all_append]
  simp
theorem allC_no {l : List Int} {i : Nat} {x : Int} (h : l[i]? = some x) (hx : isCount x = false) : allC l = false := by
  unfold allC
  rw [List.all_eq_false]
  refine ⟨x, List.mem_of_getElem? h, ?_⟩
  rw [hx]
  decide
theorem ret_two2 {a b c d : Int} (h : a = b) (k : c = d) : Ending.returned (.agg #[.int .i64 a, .int .i64 c]) = .returned (.agg #[.int .i64 b, .int .i64 d]) := by rw [h, k]
/-- What each round takes in. -/
def gk : Nat → Nat → Nat
  | 0, g => g
  | k + 1, g => gk k g ^^^ gk k g / 2 ^ 2 ^ k
theorem gk_lt {g : Nat} (h : g < 65536) : ∀ k, gk k g < 65536
  | 0 => h
  | k + 1 => Nat.xor_lt_two_pow (n := 16) (gk_lt h k) (Nat.lt_of_le_of_lt (Nat.div_le_self _ _) (gk_lt h k))
theorem fromG_all (g : Nat) : fromG g = g ^^^ fromG (g / 2) := by
  by_cases z : g = 0
  · subst z; rw [Nat.zero_div, fromG_zero]; rfl
  · exact fromG_step z
/-- Two, four, eight, sixteen halves at once. -/
theorem fromG_two (g : Nat) : fromG g = gk 1 g ^^^ fromG (g / 4) := by
  rw [fromG_all g, fromG_all (g / 2), Nat.div_div_eq_div_mul, ← Nat.xor_assoc]
  rfl
theorem div_xor (a b k : Nat) : (a ^^^ b) / 2 ^ k = a / 2 ^ k ^^^ b / 2 ^ k := by
  rw [← Nat.shiftRight_eq_div_pow, ← Nat.shiftRight_eq_div_pow, ← Nat.shiftRight_eq_div_pow, Nat.shiftRight_xor_distrib]
theorem gk_div (k m g : Nat) : gk k (g / 2 ^ m) = gk k g / 2 ^ m := by
  induction k with
  | zero => rfl
  | succ k ih =>
    show gk k (g / 2 ^ m) ^^^ gk k (g / 2 ^ m) / 2 ^ 2 ^ k = (gk k g ^^^ gk k g / 2 ^ 2 ^ k) / 2 ^ m
    rw [ih, div_xor, Nat.div_div_eq_div_mul, Nat.div_div_eq_div_mul, Nat.mul_comm]
theorem fromG_pow : ∀ (k g : Nat), fromG g = gk k g ^^^ fromG (g / 2 ^ 2 ^ k) := by
  intro k
  induction k with
  | zero => intro g; exact fromG_all g
  | succ k ih =>
    intro g
    rw [ih g, ih (g / 2 ^ 2 ^ k), gk_div, ← Nat.xor_assoc, Nat.div_div_eq_div_mul, ← Nat.pow_add, ← Nat.two_mul, ← Nat.pow_succ']
    rfl
theorem gk_from {g : Nat} (h : g < 65536) : gk 4 g = fromG g := by
  have e := fromG_pow 4 g
  rw [show g / 2 ^ 2 ^ 4 = 0 from Nat.div_eq_of_lt h, fromG_zero, Nat.xor_zero] at e
  exact e.symm
theorem u16_in {x : Int} (h : isCount x = true) : IntKind.u16.wrap x = x := by
  obtain ⟨a1, a2⟩ := inB_iff.1 h
  simp [IntKind.wrap, IntKind.bits, IntKind.signed]
  omega
end Go.Proofs.Ytemiefpkphfpgaa
