/-
  MulTop, the program's and the model's: both answer the product within the top, at every two numbers; the world stays as it was.
  The library's own contract of the product of two words is used as it is.
-/
import Derived.Test.YtdpapffocfogkagBase
import Derived.Shelf.Bits.Mul64
namespace Go.Proofs.Ytdpapffocfogkag
open Go.RowKit Pl

def mulRen : Go.Shelf.Ren := ⟨fun | 264 => 22 | n => n, fun | 46 => 39 | 53 => 32 | n => n, fun n => n⟩
theorem mulLays : Lays.n264 Try.prog mulRen :=
  { mixed := by kernel_rfl, f264 := by kernel_rfl, t46 := by kernel_rfl, a46 := fun _ => by kernel_rfl, z46 := fun _ => by kernel_rfl, v46 := fun _ => by kernel_rfl, t53 := by kernel_rfl, a53 := fun _ => by kernel_rfl, z53 := fun _ => by kernel_rfl, v53 := fun _ => by kernel_rfl }

/-- The product of two sizes, as two words. -/
def prodLo (x y : Int) : Int := (x * y) % 18446744073709551616
def prodHi (x y : Int) : Int := (x * y) / 18446744073709551616

theorem mul64_any (x y : Int) (h1 : 0 ≤ x) (h2 : x ≤ 18446744073709551615) (h3 : 0 ≤ y) (h4 : y ≤ 18446744073709551615) (w : World) :
    Calls Try.prog 22 #[.int .u64 x, .int .u64 y] w fun e w' => e = .returned (.tuple #[.int .u64 (prodHi x y), .int .u64 (prodLo x y)]) ∧ w' = w := by
  obtain ⟨n, rfl⟩ := Int.eq_ofNat_of_zero_le h1
  obtain ⟨m, rfl⟩ := Int.eq_ofNat_of_zero_le h3
  have h := Any.bits_Mul64 mulLays n m (by omega) (by omega) w
  have e1 : ((n * m / 18446744073709551616 : Nat) : Int) = prodHi n m := by unfold prodHi; simp
  have e2 : ((n * m % 18446744073709551616 : Nat) : Int) = prodLo n m := by unfold prodLo; simp
  rw [e1, e2] at h
  exact h

theorem prodLo_bd (x y : Int) : 0 ≤ prodLo x y ∧ prodLo x y ≤ 18446744073709551615 := by unfold prodLo; omega
theorem sz_mul (a b : Int) : sz a * sz b = if (a < 0 ∧ b < 0) ∨ (¬ a < 0 ∧ ¬ b < 0) then a * b else -(a * b) := by
  unfold sz
  by_cases ha : a < 0 <;> by_cases hb : b < 0 <;> simp [ha, hb, Int.neg_mul, Int.mul_neg]
/-- The side of a product. -/
def sx (a b : Int) : Int := if (a < 0 ∧ b < 0) ∨ (¬ a < 0 ∧ ¬ b < 0) then 0 else 1
theorem sx_01 (a b : Int) : sx a b = 0 ∨ sx a b = 1 := by unfold sx; split <;> omega
theorem prod_topped (a b : Int) : topped (prodHi (sz a) (sz b)) (prodLo (sz a) (sz b)) (sx a b) = clip 1000000000000000 (a * b) := by
  unfold prodHi prodLo sx
  have h0 : 0 ≤ sz a * sz b := Int.mul_nonneg (sz_nonneg a) (sz_nonneg b)
  rw [sz_mul] at h0 ⊢
  generalize a * b = p at *
  unfold topped clip
  by_cases h : (a < 0 ∧ b < 0) ∨ (¬ a < 0 ∧ ¬ b < 0)
  · simp only [if_pos h] at h0 ⊢; (repeat' split) <;> omega
  · simp only [if_neg h, if_true] at h0 ⊢; (repeat' split) <;> omega

theorem implMulTop_any (a b : Int) (a1 : -9223372036854775808 ≤ a) (a2 : a ≤ 9223372036854775807) (b1 : -9223372036854775808 ≤ b) (b2 : b ≤ 9223372036854775807) (w : World) :
    Calls Try.prog 10 #[.int .i64 a, .int .i64 b] w fun e w' => e = .returned (.int .i64 (clip 1000000000000000 (a * b))) ∧ w' = w := by
  have hl := prodLo_bd (sz a) (sz b)
  have za := sz_nonneg a
  have za' := sz_le a a1 a2
  have zb := sz_nonneg b
  have zb' := sz_le b b1 b2
  have ht : Hid (topped (prodHi (sz a) (sz b)) (prodLo (sz a) (sz b)) (sx a b) = clip 1000000000000000 (a * b)) := prod_topped a b
  by_cases ha : a < 0
  · by_cases hb : b < 0
    · have hx : sx a b = 0 := by unfold sx; rw [if_pos (by omega)]
      rw [hx] at ht; clear hx
      go_enter Try.func10, Try.ntmps10
      go_wp2_with (first | (go_at_call 17; refine (sideOf_neg a (by omega) _).mono ?_; rintro e w' ⟨rfl, rfl⟩) | (go_at_call 17; refine (sideOf_neg b (by omega) _).mono ?_; rintro e w' ⟨rfl, rfl⟩) | (go_at_call 19; refine (sizeOf_any _ (by omega) (by omega) _).mono ?_; rintro e w' ⟨rfl, rfl⟩) | (go_at_call 22; refine (mul64_any _ _ (by omega) (by omega) (by omega) (by omega) _).mono ?_; rintro e w' ⟨rfl, rfl⟩) | (go_at_call 18; refine (toppedOf_any _ _ _ hl.1 hl.2 (Or.inl rfl) _).mono ?_; rintro e w' ⟨rfl, rfl⟩))
      go_ret
      exact ⟨ret_int ht.out, rfl⟩
    · have hx : sx a b = 1 := by unfold sx; rw [if_neg (by omega)]
      rw [hx] at ht; clear hx
      go_enter Try.func10, Try.ntmps10
      go_wp2_with (first | (go_at_call 17; refine (sideOf_neg a (by omega) _).mono ?_; rintro e w' ⟨rfl, rfl⟩) | (go_at_call 17; refine (sideOf_pos b (by omega) _).mono ?_; rintro e w' ⟨rfl, rfl⟩) | (go_at_call 19; refine (sizeOf_any _ (by omega) (by omega) _).mono ?_; rintro e w' ⟨rfl, rfl⟩) | (go_at_call 22; refine (mul64_any _ _ (by omega) (by omega) (by omega) (by omega) _).mono ?_; rintro e w' ⟨rfl, rfl⟩) | (go_at_call 18; refine (toppedOf_any _ _ _ hl.1 hl.2 (Or.inr rfl) _).mono ?_; rintro e w' ⟨rfl, rfl⟩))
      go_ret
      exact ⟨ret_int ht.out, rfl⟩
  · by_cases hb : b < 0
    · have hx : sx a b = 1 := by unfold sx; rw [if_neg (by omega)]
      rw [hx] at ht; clear hx
      go_enter Try.func10, Try.ntmps10
      go_wp2_with (first | (go_at_call 17; refine (sideOf_pos a (by omega) _).mono ?_; rintro e w' ⟨rfl, rfl⟩) | (go_at_call 17; refine (sideOf_neg b (by omega) _).mono ?_; rintro e w' ⟨rfl, rfl⟩) | (go_at_call 19; refine (sizeOf_any _ (by omega) (by omega) _).mono ?_; rintro e w' ⟨rfl, rfl⟩) | (go_at_call 22; refine (mul64_any _ _ (by omega) (by omega) (by omega) (by omega) _).mono ?_; rintro e w' ⟨rfl, rfl⟩) | (go_at_call 18; refine (toppedOf_any _ _ _ hl.1 hl.2 (Or.inr rfl) _).mono ?_; rintro e w' ⟨rfl, rfl⟩))
      go_ret
      exact ⟨ret_int ht.out, rfl⟩
    · have hx : sx a b = 0 := by unfold sx; rw [if_pos (by omega)]
      rw [hx] at ht; clear hx
      go_enter Try.func10, Try.ntmps10
      go_wp2_with (first | (go_at_call 17; refine (sideOf_pos a (by omega) _).mono ?_; rintro e w' ⟨rfl, rfl⟩) | (go_at_call 17; refine (sideOf_pos b (by omega) _).mono ?_; rintro e w' ⟨rfl, rfl⟩) | (go_at_call 19; refine (sizeOf_any _ (by omega) (by omega) _).mono ?_; rintro e w' ⟨rfl, rfl⟩) | (go_at_call 22; refine (mul64_any _ _ (by omega) (by omega) (by omega) (by omega) _).mono ?_; rintro e w' ⟨rfl, rfl⟩) | (go_at_call 18; refine (toppedOf_any _ _ _ hl.1 hl.2 (Or.inl rfl) _).mono ?_; rintro e w' ⟨rfl, rfl⟩))
      go_ret
      exact ⟨ret_int ht.out, rfl⟩

theorem l1Size_any (n : Int) (h1 : -9223372036854775808 ≤ n) (h2 : n ≤ 9223372036854775807) (w : World) :
    Calls Try.prog 21 #[.int .i64 n] w fun e w' => e = .returned (.int .u64 (sz n)) ∧ w' = w := by
  by_cases h : n < 0
  · go_enter Try.func21, Try.ntmps21
    go_wp2
    go_ret
    exact ⟨ret_int (by rw [sz_neg h]; omega), rfl⟩
  · go_enter Try.func21, Try.ntmps21
    go_wp2
    go_ret
    exact ⟨ret_int (by rw [sz_pos (by omega)]), rfl⟩

theorem le_div (x y : Int) (h : 0 < y) : x ≤ 1000000000000000 / y ↔ x * y ≤ 1000000000000000 := Int.le_ediv_iff_mul_le h

/-- What the model's MulTop answers where no size is 0. -/
theorem specProd (a b : Int) (p : Int) (hp : p = sz a * sz b) (neg : Bool) (hn : neg = decide ((a < 0 ∧ ¬ b < 0) ∨ (¬ a < 0 ∧ b < 0))) :
    clip 1000000000000000 (a * b) = if p ≤ 1000000000000000 then (if neg then -p else p) else (if neg then -1000000000000000 else 1000000000000000) := by
  have h0 : 0 ≤ sz a * sz b := Int.mul_nonneg (sz_nonneg a) (sz_nonneg b)
  rw [sz_mul] at h0 hp
  subst hp; subst hn
  generalize a * b = p at *
  unfold clip
  by_cases ha : a < 0 <;> by_cases hb : b < 0 <;> simp only [ha, hb] at h0 ⊢ <;> simp at h0 ⊢ <;> (repeat' split) <;> omega

theorem neg_or (a : Int) : (a < 0 ∧ decide (a < 0) = true) ∨ (0 ≤ a ∧ decide (a < 0) = false) := by
  by_cases h : a < 0
  · exact Or.inl ⟨h, decide_eq_true h⟩
  · exact Or.inr ⟨by omega, decide_eq_false h⟩

theorem specMulTop_any (a b : Int) (a1 : -9223372036854775808 ≤ a) (a2 : a ≤ 9223372036854775807) (b1 : -9223372036854775808 ≤ b) (b2 : b ≤ 9223372036854775807) (w : World) :
    Calls Try.prog 9 #[.int .i64 a, .int .i64 b] w fun e w' => e = .returned (.int .i64 (clip 1000000000000000 (a * b))) ∧ w' = w := by
  have za := sz_nonneg a
  have za' := sz_le a a1 a2
  have zb := sz_nonneg b
  have zb' := sz_le b b1 b2
  by_cases h0 : a = 0
  · subst h0
    have e : sz 0 = 0 := rfl
    go_enter Try.func9, Try.ntmps9
    go_wp2_with (go_at_call 21; refine (l1Size_any _ (by omega) (by omega) _).mono ?_; rintro e w' ⟨rfl, rfl⟩)
    go_ret
    exact ⟨ret_int (by simp [clip]), rfl⟩
  · by_cases h1 : b = 0
    · subst h1
      have e : sz 0 = 0 := rfl
      have ea : (sz a == 0) = false := by unfold sz; split <;> simp <;> omega
      go_enter Try.func9, Try.ntmps9
      go_wp2_with (go_at_call 21; refine (l1Size_any _ (by omega) (by omega) _).mono ?_; rintro e w' ⟨rfl, rfl⟩)
      go_ret
      exact ⟨ret_int (by simp [clip]), rfl⟩
    · have na : 0 < sz a := by unfold sz; split <;> omega
      have nb : 0 < sz b := by unfold sz; split <;> omega
      have ea : (sz a == 0) = false := by simp; omega
      have eb : (sz b == 0) = false := by simp; omega
      have hp0 : 0 ≤ sz a * sz b := Int.mul_nonneg za zb
      have hiff := le_div (sz a) (sz b) nb
      have hspec := specProd a b _ rfl _ rfl
      obtain ⟨p, hp⟩ : ∃ p, sz a * sz b = p := ⟨_, rfl⟩
      rw [hp] at hp0 hiff hspec
      have HS : Hid _ := hspec
      clear hspec h0 h1
      by_cases hle : p ≤ 1000000000000000
      · have hd : sz a ≤ 1000000000000000 / sz b := hiff.2 hle
        clear hiff
        rcases neg_or a with ⟨ha, da⟩ | ⟨ha, da⟩
        all_goals
          rcases neg_or b with ⟨hb, db⟩ | ⟨hb, db⟩
          all_goals
            go_enter Try.func9, Try.ntmps9
            go_wp2_with (go_at_call 21; refine (l1Size_any _ (by omega) (by omega) _).mono ?_; rintro e w' ⟨rfl, rfl⟩)
            go_ret
            exact ⟨ret_int (by rw [HS.out, if_pos hle]; simp only [decide_eq_true_eq]; (repeat' split) <;> omega), rfl⟩
      · have hd : ¬ sz a ≤ 1000000000000000 / sz b := fun h => hle (hiff.1 h)
        clear hiff
        rcases neg_or a with ⟨ha, da⟩ | ⟨ha, da⟩
        all_goals
          rcases neg_or b with ⟨hb, db⟩ | ⟨hb, db⟩
          all_goals
            go_enter Try.func9, Try.ntmps9
            go_wp2_with (go_at_call 21; refine (l1Size_any _ (by omega) (by omega) _).mono ?_; rintro e w' ⟨rfl, rfl⟩)
            go_ret
            exact ⟨ret_int (by rw [HS.out, if_neg (by omega)]; simp only [decide_eq_true_eq]; (repeat' split) <;> omega), rfl⟩
end Go.Proofs.Ytdpapffocfogkag
