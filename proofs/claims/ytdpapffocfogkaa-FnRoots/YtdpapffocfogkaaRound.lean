/-
  RoundUp, the program's and the model's: both answer the quotient rounded up within the bounds, and the code of the range outside.
-/
import Derived.Test.YtdpapffocfogkaaRes
namespace Go.Proofs.Ytdpapffocfogkaa
open Go.RowKit Pl

theorem quotientUp_any (a b : Int) (h1 : 0 ≤ a) (h2 : a ≤ 1000000000000000) (h3 : 1 ≤ b) (h4 : b ≤ 1000000000000000) (w : World) :
    Calls Try.prog 43 #[.int .i64 a, .int .i64 b] w fun e w' => e = .returned (.int .i64 ((a + b - 1) / b)) ∧ w' = w := by
  have hb : (b == 0) = false := by simp; omega
  go_enter Try.func43, Try.ntmps43
  go_wp2
  go_ret
  exact ⟨rfl, rfl⟩
theorem l1Up_any (a b : Int) (h1 : 0 ≤ a) (h2 : a ≤ 1000000000000000) (h3 : 1 ≤ b) (h4 : b ≤ 1000000000000000) (w : World) :
    Calls Try.prog 44 #[.int .i64 a, .int .i64 b] w fun e w' => e = .returned (.int .i64 ((a + b - 1) / b)) ∧ w' = w := by
  have hb : (b == 0) = false := by simp; omega
  go_enter Try.func44, Try.ntmps44
  go_wp2
  go_ret
  exact ⟨rfl, rfl⟩

theorem implRoundUp_in (a b : Int) (h1 : 0 ≤ a) (h2 : a ≤ 1000000000000000) (h3 : 1 ≤ b) (h4 : b ≤ 1000000000000000) (w : World) :
    Calls Try.prog 17 #[.int .i64 a, .int .i64 b] w (isRes w 0 ((a + b - 1) / b)) := by
  have i1 : inB a 0 1000000000000000 = true := inB_yes h1 h2
  have i2 : inB b 1 1000000000000000 = true := inB_yes h3 h4
  go_enter Try.func17, Try.ntmps17
  go_wp2_with (first | (go_at_call 38; refine (isWithin_any _ _ _ _).mono ?_; rintro e w' ⟨rfl, rfl⟩) | (go_at_call 43; refine (quotientUp_any _ _ h1 h2 h3 h4 _).mono ?_; rintro e w' ⟨rfl, rfl⟩))
  exact bodyPost_ret (v := .agg #[.int .i64 0, .int .i64 ((a + b - 1) / b)]) (by simp [results, Try.results17, go_sem]) rfl ⟨rfl, rfl⟩
theorem implRoundUp_out (a b : Int) (h : ¬ (0 ≤ a ∧ a ≤ 1000000000000000 ∧ 1 ≤ b ∧ b ≤ 1000000000000000)) (w : World) :
    Calls Try.prog 17 #[.int .i64 a, .int .i64 b] w (isRes w 3 0) := by
  by_cases ha : a < 0 ∨ 1000000000000000 < a
  · have i1 : inB a 0 1000000000000000 = false := inB_no ha
    go_enter Try.func17, Try.ntmps17
    go_wp2_with (go_at_call 38; refine (isWithin_any _ _ _ _).mono ?_; rintro e w' ⟨rfl, rfl⟩)
    exact bodyPost_ret (v := .agg #[.int .i64 3, .int .i64 0]) (by simp [results, Try.results17, go_sem]) rfl ⟨rfl, rfl⟩
  · have i1 : inB a 0 1000000000000000 = true := inB_yes (by omega) (by omega)
    have i2 : inB b 1 1000000000000000 = false := inB_no (by omega)
    clear h ha
    go_enter Try.func17, Try.ntmps17
    go_wp2_with (go_at_call 38; refine (isWithin_any _ _ _ _).mono ?_; rintro e w' ⟨rfl, rfl⟩)
    exact bodyPost_ret (v := .agg #[.int .i64 3, .int .i64 0]) (by simp [results, Try.results17, go_sem]) rfl ⟨rfl, rfl⟩
theorem specRoundUp_in (a b : Int) (h1 : 0 ≤ a) (h2 : a ≤ 1000000000000000) (h3 : 1 ≤ b) (h4 : b ≤ 1000000000000000) (w : World) :
    Calls Try.prog 18 #[.int .i64 a, .int .i64 b] w (isRes w 0 ((a + b - 1) / b)) := by
  have i1 : inB a 0 1000000000000000 = true := inB_yes h1 h2
  have i2 : inB b 1 1000000000000000 = true := inB_yes h3 h4
  go_enter Try.func18, Try.ntmps18
  go_wp2_with (first | (go_at_call 41; refine (l1In_any _ _ _ _).mono ?_; rintro e w' ⟨rfl, rfl⟩) | (go_at_call 44; refine (l1Up_any _ _ h1 h2 h3 h4 _).mono ?_; rintro e w' ⟨rfl, rfl⟩))
  exact bodyPost_ret (v := .agg #[.int .i64 0, .int .i64 ((a + b - 1) / b)]) (by simp [results, Try.results18, go_sem]) rfl ⟨rfl, rfl⟩
theorem specRoundUp_out (a b : Int) (h : ¬ (0 ≤ a ∧ a ≤ 1000000000000000 ∧ 1 ≤ b ∧ b ≤ 1000000000000000)) (w : World) :
    Calls Try.prog 18 #[.int .i64 a, .int .i64 b] w (isRes w 3 0) := by
  by_cases ha : a < 0 ∨ 1000000000000000 < a
  · have i1 : inB a 0 1000000000000000 = false := inB_no ha
    go_enter Try.func18, Try.ntmps18
    go_wp2_with (go_at_call 41; refine (l1In_any _ _ _ _).mono ?_; rintro e w' ⟨rfl, rfl⟩)
    exact bodyPost_ret (v := .agg #[.int .i64 3, .int .i64 0]) (by simp [results, Try.results18, go_sem]) rfl ⟨rfl, rfl⟩
  · have i1 : inB a 0 1000000000000000 = true := inB_yes (by omega) (by omega)
    have i2 : inB b 1 1000000000000000 = false := inB_no (by omega)
    clear h ha
    go_enter Try.func18, Try.ntmps18
    go_wp2_with (go_at_call 41; refine (l1In_any _ _ _ _).mono ?_; rintro e w' ⟨rfl, rfl⟩)
    exact bodyPost_ret (v := .agg #[.int .i64 3, .int .i64 0]) (by simp [results, Try.results18, go_sem]) rfl ⟨rfl, rfl⟩
end Go.Proofs.Ytdpapffocfogkaa
