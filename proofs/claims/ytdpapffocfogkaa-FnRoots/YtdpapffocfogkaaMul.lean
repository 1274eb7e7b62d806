/-
  MulTop, the program's: it answers the product within the top, at every two numbers; the world stays as it was.
  The library's own contract of the product of two words is used as it is.
-/
import Derived.Test.YtdpapffocfogkaaBase
import Derived.Shelf.Bits.Mul64
namespace Go.Proofs.Ytdpapffocfogkaa
open Go.RowKit Pl

def mulRen : Go.Shelf.Ren := ⟨fun | 264 => 34 | n => n, fun | 46 => 55 | 53 => 41 | n => n, fun n => n⟩
theorem mulLays : Lays.n264 Try.prog mulRen :=
  { mixed := by kernel_rfl, f264 := by kernel_rfl, t46 := by kernel_rfl, a46 := fun _ => by kernel_rfl, z46 := fun _ => by kernel_rfl, v46 := fun _ => by kernel_rfl, t53 := by kernel_rfl, a53 := fun _ => by kernel_rfl, z53 := fun _ => by kernel_rfl, v53 := fun _ => by kernel_rfl }

/-- The product of two sizes, as two words. -/
def prodLo (x y : Int) : Int := (x * y) % 18446744073709551616
def prodHi (x y : Int) : Int := (x * y) / 18446744073709551616

theorem mul64_any (x y : Int) (h1 : 0 ≤ x) (h2 : x ≤ 18446744073709551615) (h3 : 0 ≤ y) (h4 : y ≤ 18446744073709551615) (w : World) :
    Calls Try.prog 34 #[.int .u64 x, .int .u64 y] w fun e w' => e = .returned (.tuple #[.int .u64 (prodHi x y), .int .u64 (prodLo x y)]) ∧ w' = w := by
  obtain ⟨n, rfl⟩ := Int.eq_ofNat_of_zero_le h1
  obtain ⟨m, rfl⟩ := Int.eq_ofNat_of_zero_le h3
  have h := Any.bits_Mul64 mulLays n m (by omega) (by omega) w
  have e1 : ((n * m / 18446744073709551616 : Nat) : Int) = prodHi n m := by unfold prodHi; simp
  have e2 : ((n * m % 18446744073709551616 : Nat) : Int) = prodLo n m := by unfold prodLo; simp
  rw [e1, e2] at h
  exact h

theorem prodLo_bd (x y : Int) : 0 ≤ prodLo x y ∧ prodLo x y ≤ 18446744073709551615 := by unfold prodLo; omega
theorem sz_mul (a b : Int) : sz a * sz b = if (a < 0 ∧ b < 0) ∨ (¬ a < 0 ∧ ¬ b < 0) then a * b else -(a * b) := by
  unfold sz
  by_cases ha : a < 0 <;> by_cases hb : b < 0 <;> simp [ha, hb, Int.neg_mul, Int.mul_neg]
/-- The side of a product. -/
def sx (a b : Int) : Int := if (a < 0 ∧ b < 0) ∨ (¬ a < 0 ∧ ¬ b < 0) then 0 else 1
theorem sx_01 (a b : Int) : sx a b = 0 ∨ sx a b = 1 := by unfold sx; split <;> omega
theorem prod_topped (a b : Int) : topped (prodHi (sz a) (sz b)) (prodLo (sz a) (sz b)) (sx a b) = clip 1000000000000000 (a * b) := by
  unfold prodHi prodLo sx
  have h0 : 0 ≤ sz a * sz b := Int.mul_nonneg (sz_nonneg a) (sz_nonneg b)
  rw [sz_mul] at h0 ⊢
  generalize a * b = p at *
  unfold topped clip
  by_cases h : (a < 0 ∧ b < 0) ∨ (¬ a < 0 ∧ ¬ b < 0)
  · simp only [if_pos h] at h0 ⊢; (repeat' split) <;> omega
  · simp only [if_neg h, if_true] at h0 ⊢; (repeat' split) <;> omega

theorem implMulTop_any (a b : Int) (a1 : -9223372036854775808 ≤ a) (a2 : a ≤ 9223372036854775807) (b1 : -9223372036854775808 ≤ b) (b2 : b ≤ 9223372036854775807) (w : World) :
    Calls Try.prog 11 #[.int .i64 a, .int .i64 b] w fun e w' => e = .returned (.int .i64 (clip 1000000000000000 (a * b))) ∧ w' = w := by
  have hl := prodLo_bd (sz a) (sz b)
  have za := sz_nonneg a
  have za' := sz_le a a1 a2
  have zb := sz_nonneg b
  have zb' := sz_le b b1 b2
  have ht : Hid (topped (prodHi (sz a) (sz b)) (prodLo (sz a) (sz b)) (sx a b) = clip 1000000000000000 (a * b)) := prod_topped a b
  by_cases ha : a < 0
  · by_cases hb : b < 0
    · have hx : sx a b = 0 := by unfold sx; rw [if_pos (by omega)]
      rw [hx] at ht; clear hx
      go_enter Try.func11, Try.ntmps11
      go_wp2_with (first | (go_at_call 30; refine (sideOf_neg a (by omega) _).mono ?_; rintro e w' ⟨rfl, rfl⟩) | (go_at_call 30; refine (sideOf_neg b (by omega) _).mono ?_; rintro e w' ⟨rfl, rfl⟩) | (go_at_call 32; refine (sizeOf_any _ (by omega) (by omega) _).mono ?_; rintro e w' ⟨rfl, rfl⟩) | (go_at_call 34; refine (mul64_any _ _ (by omega) (by omega) (by omega) (by omega) _).mono ?_; rintro e w' ⟨rfl, rfl⟩) | (go_at_call 31; refine (toppedOf_any _ _ _ hl.1 hl.2 (Or.inl rfl) _).mono ?_; rintro e w' ⟨rfl, rfl⟩))
      go_ret
      exact ⟨ret_int ht.out, rfl⟩
    · have hx : sx a b = 1 := by unfold sx; rw [if_neg (by omega)]
      rw [hx] at ht; clear hx
      go_enter Try.func11, Try.ntmps11
      go_wp2_with (first | (go_at_call 30; refine (sideOf_neg a (by omega) _).mono ?_; rintro e w' ⟨rfl, rfl⟩) | (go_at_call 30; refine (sideOf_pos b (by omega) _).mono ?_; rintro e w' ⟨rfl, rfl⟩) | (go_at_call 32; refine (sizeOf_any _ (by omega) (by omega) _).mono ?_; rintro e w' ⟨rfl, rfl⟩) | (go_at_call 34; refine (mul64_any _ _ (by omega) (by omega) (by omega) (by omega) _).mono ?_; rintro e w' ⟨rfl, rfl⟩) | (go_at_call 31; refine (toppedOf_any _ _ _ hl.1 hl.2 (Or.inr rfl) _).mono ?_; rintro e w' ⟨rfl, rfl⟩))
      go_ret
      exact ⟨ret_int ht.out, rfl⟩
  · by_cases hb : b < 0
    · have hx : sx a b = 1 := by unfold sx; rw [if_neg (by omega)]
      rw [hx] at ht; clear hx
      go_enter Try.func11, Try.ntmps11
      go_wp2_with (first | (go_at_call 30; refine (sideOf_pos a (by omega) _).mono ?_; rintro e w' ⟨rfl, rfl⟩) | (go_at_call 30; refine (sideOf_neg b (by omega) _).mono ?_; rintro e w' ⟨rfl, rfl⟩) | (go_at_call 32; refine (sizeOf_any _ (by omega) (by omega) _).mono ?_; rintro e w' ⟨rfl, rfl⟩) | (go_at_call 34; refine (mul64_any _ _ (by omega) (by omega) (by omega) (by omega) _).mono ?_; rintro e w' ⟨rfl, rfl⟩) | (go_at_call 31; refine (toppedOf_any _ _ _ hl.1 hl.2 (Or.inr rfl) _).mono ?_; rintro e w' ⟨rfl, rfl⟩))
      go_ret
      exact ⟨ret_int ht.out, rfl⟩
    · have hx : sx a b = 0 := by unfold sx; rw [if_pos (by omega)]
      rw [hx] at ht; clear hx
      go_enter Try.func11, Try.ntmps11
      go_wp2_with (first | (go_at_call 30; refine (sideOf_pos a (by omega) _).mono ?_; rintro e w' ⟨rfl, rfl⟩) | (go_at_call 30; refine (sideOf_pos b (by omega) _).mono ?_; rintro e w' ⟨rfl, rfl⟩) | (go_at_call 32; refine (sizeOf_any _ (by omega) (by omega) _).mono ?_; rintro e w' ⟨rfl, rfl⟩) | (go_at_call 34; refine (mul64_any _ _ (by omega) (by omega) (by omega) (by omega) _).mono ?_; rintro e w' ⟨rfl, rfl⟩) | (go_at_call 31; refine (toppedOf_any _ _ _ hl.1 hl.2 (Or.inl rfl) _).mono ?_; rintro e w' ⟨rfl, rfl⟩))
      go_ret
      exact ⟨ret_int ht.out, rfl⟩

end Go.Proofs.Ytdpapffocfogkaa
