/-
  MoveOn and BrakeOn, the program's and the model's.
-/
import Derived.Test.YtfombjiocneadaaRes
namespace Go.Proofs.Ytfombjiocneadaa
open Go.RowKit Pl

/-- A speed that was braked. -/
def brk (v b : Int) : Int := if v < 0 then (if v + b < 0 then v + b else 0) else (if 0 < v - b then v - b else 0)

/-- A result of a code, a place and a speed: it lies in a new block, which is all that the world has more. -/
def isMove (w : World) (c p v : Int) (e : Ending) (w' : World) : Prop :=
  e = .returned (.agg #[.int .i64 c, .int .i64 p, .int .i64 v]) ∧ w' = w.alloc (.cells #[.int .i64 c, .int .i64 p, .int .i64 v] 95)

theorem l1Clip_any (v : Int) (h1 : -4000 ≤ v) (h2 : v ≤ 4000) (w : World) :
    Calls Try.prog 66 #[.int .i64 v, .int .i64 2000] w fun e w' => e = .returned (.int .i64 (clip 2000 v)) ∧ w' = w := by
  by_cases h3 : v < -2000
  · go_enter Try.func66, Try.ntmps66
    go_wp2
    go_ret
    exact ⟨ret_int (by unfold clip; (repeat' split) <;> omega), rfl⟩
  · by_cases h4 : 2000 < v
    · go_enter Try.func66, Try.ntmps66
      go_wp2
      go_ret
      exact ⟨ret_int (by unfold clip; (repeat' split) <;> omega), rfl⟩
    · by_cases h5 : -2000 < v
      all_goals
        by_cases h6 : v < 2000
        all_goals
          go_enter Try.func66, Try.ntmps66
          go_wp2
          go_ret
          exact ⟨ret_int (by unfold clip; (repeat' split) <;> omega), rfl⟩

theorem sz_in {n m : Int} (h1 : -m ≤ n) (h2 : n ≤ m) : decide (m < sz n) = false := decide_eq_false (by unfold sz; split <;> omega)
theorem sz_out {n m : Int} (h : n < -m ∨ m < n) : decide (m < sz n) = true := decide_eq_true (by unfold sz; split <;> omega)

theorem l1Brake_any (v b : Int) (v1 : -2000 ≤ v) (v2 : v ≤ 2000) (b1 : 1 ≤ b) (b2 : b ≤ 2000) (w : World) :
    Calls Try.prog 65 #[.int .i64 v, .int .i64 b] w fun e w' => e = .returned (.int .i64 (brk v b)) ∧ w' = w := by
  by_cases h : v < 0
  · by_cases h' : 0 < v + b
    all_goals
      go_enter Try.func65, Try.ntmps65
      go_wp2
      go_ret
      exact ⟨ret_int (by unfold brk; (repeat' split) <;> omega), rfl⟩
  · by_cases h' : v - b < 0
    all_goals
      go_enter Try.func65, Try.ntmps65
      go_wp2
      go_ret
      exact ⟨ret_int (by unfold brk; (repeat' split) <;> omega), rfl⟩
theorem brk_bd (v b : Int) (v1 : -2000 ≤ v) (v2 : v ≤ 2000) (b1 : 1 ≤ b) : -2000 ≤ brk v b ∧ brk v b ≤ 2000 := by unfold brk; (repeat' split) <;> omega
theorem implBrakeOn_out (p v a : Int) (hp : -9223372036854775808 ≤ p ∧ p ≤ 9223372036854775807) (hv : -9223372036854775808 ≤ v ∧ v ≤ 9223372036854775807) (ha : -9223372036854775808 ≤ a ∧ a ≤ 9223372036854775807) (h : ¬ ((-1000000000000000 ≤ p ∧ p ≤ 1000000000000000) ∧ (-2000 ≤ v ∧ v ≤ 2000) ∧ (1 ≤ a ∧ a ≤ 2000))) (w : World) :
    Calls Try.prog 82 #[.int .i64 p, .int .i64 v, .int .i64 a] w (isMove w 3 0 0) := by
  by_cases h1 : -1000000000000000 ≤ p ∧ p ≤ 1000000000000000
  · by_cases h2 : -2000 ≤ v ∧ v ≤ 2000
    · have i1 : inB p (-1000000000000000) 1000000000000000 = true := inB_yes h1.1 h1.2
      have i2 : inB v (-2000) 2000 = true := inB_yes h2.1 h2.2
      have i3 : inB a 1 2000 = false := inB_no (by omega)
      clear h
      go_enter Try.func82, Try.ntmps82
      go_wp2_with (go_at_call 31; refine (isWithin_any _ _ _ _).mono ?_; rintro e w' ⟨rfl, rfl⟩)
      exact bodyPost_ret (v := .agg #[.int .i64 3, .int .i64 0, .int .i64 0]) (by simp [results, Try.results82, go_sem]) rfl ⟨rfl, rfl⟩
    · have i1 : inB p (-1000000000000000) 1000000000000000 = true := inB_yes h1.1 h1.2
      have i2 : inB v (-2000) 2000 = false := inB_no (by omega)
      clear h
      go_enter Try.func82, Try.ntmps82
      go_wp2_with (go_at_call 31; refine (isWithin_any _ _ _ _).mono ?_; rintro e w' ⟨rfl, rfl⟩)
      exact bodyPost_ret (v := .agg #[.int .i64 3, .int .i64 0, .int .i64 0]) (by simp [results, Try.results82, go_sem]) rfl ⟨rfl, rfl⟩
  · have i1 : inB p (-1000000000000000) 1000000000000000 = false := inB_no (by omega)
    clear h
    go_enter Try.func82, Try.ntmps82
    go_wp2_with (go_at_call 31; refine (isWithin_any _ _ _ _).mono ?_; rintro e w' ⟨rfl, rfl⟩)
    exact bodyPost_ret (v := .agg #[.int .i64 3, .int .i64 0, .int .i64 0]) (by simp [results, Try.results82, go_sem]) rfl ⟨rfl, rfl⟩
theorem topped_brk (v b : Int) (v1 : -2000 ≤ v) (v2 : v ≤ 2000) (b1 : 1 ≤ b) (hm : b < sz v) : topped 0 (sz v - b) (sd v) = brk v b := by
  by_cases h : v < 0
  · rw [sz_neg h] at hm; rw [sz_neg h, sd_neg h]; simp only [topped, brk, if_pos h, if_true]; (repeat' split) <;> omega
  · rw [sz_pos h] at hm; rw [sz_pos h, sd_pos h]; simp only [topped, brk, if_neg h]; (repeat' split) <;> omega
theorem topped_brk0 (v b : Int) (hm : sz v ≤ b) : topped 0 0 (sd v) = brk v b := by
  by_cases h : v < 0
  · rw [sz_neg h] at hm; rw [sd_neg h]; simp only [topped, brk, if_pos h, if_true]; (repeat' split) <;> omega
  · rw [sz_pos h] at hm; rw [sd_pos h]; simp only [topped, brk, if_neg h]; (repeat' split) <;> omega
theorem implBrakeOn_in (p v b : Int) (p1 : -1000000000000000 ≤ p) (p2 : p ≤ 1000000000000000) (v1 : -2000 ≤ v) (v2 : v ≤ 2000) (b1 : 1 ≤ b) (b2 : b ≤ 2000) (w : World) :
    Calls Try.prog 82 #[.int .i64 p, .int .i64 v, .int .i64 b] w (isMove w 0 (p + brk v b) (brk v b)) := by
  have i1 : inB p (-1000000000000000) 1000000000000000 = true := inB_yes p1 p2
  have i2 : inB v (-2000) 2000 = true := inB_yes v1 v2
  have i3 : inB b 1 2000 = true := inB_yes b1 b2
  have hc := brk_bd v b v1 v2 b1
  have zv := sz_nonneg v
  have zv' : sz v ≤ 2000 := by unfold sz; split <;> omega
  have zb : sz b = b := sz_pos (by omega)
  by_cases hm : b < sz v
  · have ht : Hid (topped 0 (sz v - b) (sd v) = brk v b) := topped_brk v b v1 v2 b1 hm
    go_enter Try.func82, Try.ntmps82
    go_wp2_with (first | (go_at_call 31; refine (isWithin_any _ _ _ _).mono ?_; rintro e w' ⟨rfl, rfl⟩) | (go_at_call 87; refine (sizeOf_any _ (by omega) (by omega) _).mono ?_; rintro e w' ⟨rfl, rfl⟩) | (go_at_call 90; refine (sideOf_any _ _).mono ?_; rintro e w' ⟨rfl, rfl⟩) | (go_at_call 89; refine (toppedOf_any _ _ _ (by omega) (by omega) (sd_01 _) _).mono ?_; rintro e w' ⟨rfl, rfl⟩; rw [ht.out]))
    exact bodyPost_ret (v := .agg #[.int .i64 0, .int .i64 (p + brk v b), .int .i64 (brk v b)]) (by simp [results, Try.results82, go_sem]) rfl ⟨rfl, rfl⟩
  · have ht : Hid (topped 0 0 (sd v) = brk v b) := topped_brk0 v b (by omega)
    go_enter Try.func82, Try.ntmps82
    go_wp2_with (first | (go_at_call 31; refine (isWithin_any _ _ _ _).mono ?_; rintro e w' ⟨rfl, rfl⟩) | (go_at_call 87; refine (sizeOf_any _ (by omega) (by omega) _).mono ?_; rintro e w' ⟨rfl, rfl⟩) | (go_at_call 90; refine (sideOf_any _ _).mono ?_; rintro e w' ⟨rfl, rfl⟩) | (go_at_call 89; refine (toppedOf_any _ _ _ (by omega) (by omega) (sd_01 _) _).mono ?_; rintro e w' ⟨rfl, rfl⟩; rw [ht.out]))
    exact bodyPost_ret (v := .agg #[.int .i64 0, .int .i64 (p + brk v b), .int .i64 (brk v b)]) (by simp [results, Try.results82, go_sem]) rfl ⟨rfl, rfl⟩
end Go.Proofs.Ytfombjiocneadaa
