/-
  AddTop, the program's: it answers the sum within the top, at every two numbers; the world stays as it was.
-/
import Derived.Test.YtdpapffocfogkaaBase
namespace Go.Proofs.Ytdpapffocfogkaa
open Go.RowKit Pl

theorem add64_run (x y : Int) (hx : 0 ≤ x) (hy : 0 ≤ y) (w : World) :
    (callFunc 33 #[.int .u64 x, .int .u64 y, .int .u64 0]).run Try.prog w =
      .ok (.value (.tuple #[.int .u64 ((x + y) % 18446744073709551616), .int .u64 ((x + y) / 18446744073709551616)])) w := by
  rw [run_callFunc_extern Try.func33 (by kernel_rfl) (by kernel_rfl) (by kernel_rfl) (e := add64Entry) (by kernel_rfl), run_add64 x y 0 hx hy (by omega) (by omega)]
  simp only [Result.andThen, Int.add_zero]

/-- The sum of two sizes, as two words. -/
def sumLo (x y : Int) : Int := (x + y) % 18446744073709551616
def sumHi (x y : Int) : Int := (x + y) / 18446744073709551616
theorem sumLo_bd (x y : Int) : 0 ≤ sumLo x y ∧ sumLo x y ≤ 18446744073709551615 := by unfold sumLo; omega
theorem sum_topped (a b : Int) (a1 : -9223372036854775808 ≤ a) (a2 : a ≤ 9223372036854775807) (b1 : -9223372036854775808 ≤ b) (b2 : b ≤ 9223372036854775807) (h : (a < 0 ∧ b < 0) ∨ (0 ≤ a ∧ 0 ≤ b)) :
    topped (sumHi (sz a) (sz b)) (sumLo (sz a) (sz b)) (sd a) = clip 1000000000000000 (a + b) := by
  rcases h with ⟨h1, h2⟩ | ⟨h1, h2⟩
  · simp only [sd_neg h1, sz_neg h1, sz_neg h2, topped, sumHi, sumLo, clip, if_true]; (repeat' split) <;> omega
  · simp only [sd_pos (show ¬ a < 0 by omega), sz_pos (show ¬ a < 0 by omega), sz_pos (show ¬ b < 0 by omega), topped, sumHi, sumLo, clip]; (repeat' split) <;> omega
theorem diff_topped (s : Int) : topped 0 (sz s) (sd s) = clip 1000000000000000 s := by
  unfold topped clip sz sd; (repeat' split) <;> omega

theorem implAddTop_any (a b : Int) (a1 : -9223372036854775808 ≤ a) (a2 : a ≤ 9223372036854775807) (b1 : -9223372036854775808 ≤ b) (b2 : b ≤ 9223372036854775807) (w : World) :
    Calls Try.prog 10 #[.int .i64 a, .int .i64 b] w fun e w' => e = .returned (.int .i64 (clip 1000000000000000 (a + b))) ∧ w' = w := by
  by_cases ha : a < 0
  · by_cases hb : b < 0
    · have hadd : ∀ w, (callFunc 33 #[.int .u64 (sz a), .int .u64 (sz b), .int .u64 0]).run Try.prog w = .ok (.value (.tuple #[.int .u64 (sumLo (sz a) (sz b)), .int .u64 (sumHi (sz a) (sz b))])) w := fun w => add64_run _ _ (sz_nonneg a) (sz_nonneg b) w
      have hl := sumLo_bd (sz a) (sz b)
      have ht : Hid (topped (sumHi (sz a) (sz b)) (sumLo (sz a) (sz b)) 1 = clip 1000000000000000 (a + b)) := by have := sum_topped a b a1 a2 b1 b2 (Or.inl ⟨ha, hb⟩); rw [sd_neg ha] at this; exact this
      go_enter Try.func10, Try.ntmps10
      go_wp2_with (first | (go_at_call 30; refine (sideOf_neg _ (by omega) _).mono ?_; rintro e w' ⟨rfl, rfl⟩) | (go_at_call 32; refine (sizeOf_any _ (by omega) (by omega) _).mono ?_; rintro e w' ⟨rfl, rfl⟩) | (go_at_call 31; refine (toppedOf_any _ _ _ hl.1 hl.2 (Or.inr rfl) _).mono ?_; rintro e w' ⟨rfl, rfl⟩))
      go_ret
      exact ⟨ret_int ht.out, rfl⟩
    · have ht : Hid (topped 0 (sz (a + b)) (sd (a + b)) = clip 1000000000000000 (a + b)) := diff_topped (a + b)
      have hz := sz_nonneg (a + b)
      have hz' := sz_le (a + b) (by omega) (by omega)
      go_enter Try.func10, Try.ntmps10
      go_wp2_with (first | (go_at_call 30; refine (sideOf_neg _ ha _).mono ?_; rintro e w' ⟨rfl, rfl⟩) | (go_at_call 30; refine (sideOf_pos b (by omega) _).mono ?_; rintro e w' ⟨rfl, rfl⟩) | (go_at_call 30; refine (sideOf_any (a + b) _).mono ?_; rintro e w' ⟨rfl, rfl⟩) | (go_at_call 32; refine (sizeOf_any _ (by omega) (by omega) _).mono ?_; rintro e w' ⟨rfl, rfl⟩) | (go_at_call 31; refine (toppedOf_any _ _ _ (by omega) (by omega) (sd_01 _) _).mono ?_; rintro e w' ⟨rfl, rfl⟩))
      go_ret
      exact ⟨ret_int ht.out, rfl⟩
  · by_cases hb : b < 0
    · have ht : Hid (topped 0 (sz (a + b)) (sd (a + b)) = clip 1000000000000000 (a + b)) := diff_topped (a + b)
      have hz := sz_nonneg (a + b)
      have hz' := sz_le (a + b) (by omega) (by omega)
      go_enter Try.func10, Try.ntmps10
      go_wp2_with (first | (go_at_call 30; refine (sideOf_neg b hb _).mono ?_; rintro e w' ⟨rfl, rfl⟩) | (go_at_call 30; refine (sideOf_pos a (by omega) _).mono ?_; rintro e w' ⟨rfl, rfl⟩) | (go_at_call 30; refine (sideOf_any (a + b) _).mono ?_; rintro e w' ⟨rfl, rfl⟩) | (go_at_call 32; refine (sizeOf_any _ (by omega) (by omega) _).mono ?_; rintro e w' ⟨rfl, rfl⟩) | (go_at_call 31; refine (toppedOf_any _ _ _ (by omega) (by omega) (sd_01 _) _).mono ?_; rintro e w' ⟨rfl, rfl⟩))
      go_ret
      exact ⟨ret_int ht.out, rfl⟩
    · have hadd : ∀ w, (callFunc 33 #[.int .u64 (sz a), .int .u64 (sz b), .int .u64 0]).run Try.prog w = .ok (.value (.tuple #[.int .u64 (sumLo (sz a) (sz b)), .int .u64 (sumHi (sz a) (sz b))])) w := fun w => add64_run _ _ (sz_nonneg a) (sz_nonneg b) w
      have hl := sumLo_bd (sz a) (sz b)
      have ht : Hid (topped (sumHi (sz a) (sz b)) (sumLo (sz a) (sz b)) 0 = clip 1000000000000000 (a + b)) := by have := sum_topped a b a1 a2 b1 b2 (Or.inr ⟨by omega, by omega⟩); rw [sd_pos ha] at this; exact this
      go_enter Try.func10, Try.ntmps10
      go_wp2_with (first | (go_at_call 30; refine (sideOf_pos _ (by omega) _).mono ?_; rintro e w' ⟨rfl, rfl⟩) | (go_at_call 32; refine (sizeOf_any _ (by omega) (by omega) _).mono ?_; rintro e w' ⟨rfl, rfl⟩) | (go_at_call 31; refine (toppedOf_any _ _ _ hl.1 hl.2 (Or.inl rfl) _).mono ?_; rintro e w' ⟨rfl, rfl⟩))
      go_ret
      exact ⟨ret_int ht.out, rfl⟩
end Go.Proofs.Ytdpapffocfogkaa
