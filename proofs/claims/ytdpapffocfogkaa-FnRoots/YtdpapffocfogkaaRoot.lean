/-
  RootDown, the program's and the model's: both answer the greatest number whose square is not above n.
-/
import Derived.Test.YtdpapffocfogkaaRes
import Derived.Test.YtdpapffocfogkaaHalve
namespace Go.Proofs.Ytdpapffocfogkaa
open Go.RowKit Pl

/-- The test that RootDown hands on: it reads what it captured, and answers whether the square is not above it. -/
theorem rootFits_any (n m : Int) (a : Addr) (h0 : 0 ≤ m) (h1 : m ≤ 33554432) (w : World) (hc : w.cell? a = some (.int .i64 n)) :
    Calls Try.prog 40 #[.int .i64 m, .pointer (some a)] w fun e w' => e = .returned (.bool (sqB n m)) ∧ w' = w := by
  have hb := sq_bd m h0 h1
  go_enter Try.func40, Try.ntmps40
  go_wp2
  go_ret
  exact ⟨rfl, rfl⟩

theorem greatestFit_root (n : Int) (a : Addr) (w : World) (hc : w.cell? a = some (.int .i64 n)) :
    Calls Try.prog 39 #[.int .i64 33554432, .func (.func 40) #[] #[.pointer (some a)]] w fun e w' => ∃ r, e = .returned (.int .i64 r) ∧ Best (sqB n) 33554432 r ∧ w' = w := by
  go_enter Try.func39, Try.ntmps39
  go_wp2
  go_loop [5, 6] (fun l h => ∃ lo hi : Int, l = .int .i64 lo ∧ h = .int .i64 hi ∧ Within (sqB n) 33554432 lo hi) (fun l h => (intOf h - intOf l).toNat)
  case atStart => exact ⟨0, 33554432, rfl, rfl, Within.start _ (by omega)⟩
  case round =>
    obtain ⟨lo, hi, rfl, rfl, hin⟩ := hrel
    have h1 : 0 ≤ lo := hin.1
    have h2 : hi ≤ 33554432 := hin.2.2.1
    by_cases hlt : lo < hi
    · have HF : Hid (Falls (sqB n) 33554432) := sqB_falls n _
      cases hf : sqB n (hi - (hi - lo) / 2) with
      | true =>
        go_wp2_with (go_at_call 40; refine (rootFits_any n _ a (by omega) (by omega) _ hc).mono ?_; rintro e w' ⟨rfl, rfl⟩)
        go_round
        case rel => exact ⟨_, hi, rfl, rfl, hin.yes (by omega) (by omega) hf⟩
        case measure => simp [intOf]; omega
      | false =>
        go_wp2_with (go_at_call 40; refine (rootFits_any n _ a (by omega) (by omega) _ hc).mono ?_; rintro e w' ⟨rfl, rfl⟩)
        go_round
        case rel => exact ⟨lo, _, rfl, rfl, Within.no HF.out hin (by omega) (by omega) hf⟩
        case measure => simp [intOf]; omega
    · go_wp2
      go_ret
      exact ⟨lo, rfl, hin.done (by omega), rfl⟩

theorem implRootDown_in (n r : Int) (h1 : 0 ≤ n) (h2 : n ≤ 1000000000000000) (hr : Best (sqB n) 33554432 r) (w : World) :
    Calls Try.prog 14 #[.int .i64 n] w fun e w' => e = .returned (.agg #[.int .i64 0, .int .i64 r]) ∧ w' = (w.alloc (.cells #[.int .i64 n] 2)).alloc (.cells #[.int .i64 0, .int .i64 r] 30) := by
  have i1 : inB n 0 1000000000000000 = true := inB_yes h1 h2
  have HR : Hid _ := hr
  clear hr
  go_enter Try.func14, Try.ntmps14
  go_wp2_with (first | (go_at_call 38; refine (isWithin_any _ _ _ _).mono ?_; rintro e w' ⟨rfl, rfl⟩) | (go_at_call 39; refine (greatestFit_root n _ _ (by simp)).mono ?_; rintro e w' ⟨r', rfl, hb, rfl⟩; obtain rfl := Best.one HR.out hb))
  exact bodyPost_ret (v := .agg #[.int .i64 0, .int .i64 r]) (by simp [results, Try.results14, go_sem]) rfl ⟨rfl, rfl⟩
theorem implRootDown_out (n : Int) (h : n < 0 ∨ 1000000000000000 < n) (w : World) :
    Calls Try.prog 14 #[.int .i64 n] w fun e w' => e = .returned (.agg #[.int .i64 3, .int .i64 0]) ∧ w' = (w.alloc (.cells #[.int .i64 n] 2)).alloc (.cells #[.int .i64 3, .int .i64 0] 30) := by
  have i1 : inB n 0 1000000000000000 = false := inB_no h
  go_enter Try.func14, Try.ntmps14
  go_wp2_with (go_at_call 38; refine (isWithin_any _ _ _ _).mono ?_; rintro e w' ⟨rfl, rfl⟩)
  exact bodyPost_ret (v := .agg #[.int .i64 3, .int .i64 0]) (by simp [results, Try.results14, go_sem]) rfl ⟨rfl, rfl⟩

theorem l1Root_any (n : Int) (w : World) :
    Calls Try.prog 42 #[.int .i64 n] w fun e w' => ∃ r, e = .returned (.int .i64 r) ∧ Best (sqB n) 33554432 r ∧ w' = w := by
  go_enter Try.func42, Try.ntmps42
  go_wp2
  go_loop [3, 4] (fun l h => ∃ lo hi : Int, l = .int .i64 lo ∧ h = .int .i64 hi ∧ Within (sqB n) 33554432 lo hi) (fun l h => (intOf h - intOf l).toNat)
  case atStart => exact ⟨0, 33554432, rfl, rfl, Within.start _ (by omega)⟩
  case round =>
    obtain ⟨lo, hi, rfl, rfl, hin⟩ := hrel
    have h1 : 0 ≤ lo := hin.1
    have h2 : hi ≤ 33554432 := hin.2.2.1
    by_cases hlt : lo < hi
    · have HF : Hid (Falls (sqB n) 33554432) := sqB_falls n _
      have hb := sq_bd ((lo + hi + 1) / 2) (by omega) (by omega)
      by_cases hf : (lo + hi + 1) / 2 * ((lo + hi + 1) / 2) ≤ n
      · have HQ : Hid (sqB n ((lo + hi + 1) / 2) = true) := decide_eq_true hf
        go_wp2
        go_round
        case rel => exact ⟨_, hi, rfl, rfl, hin.yes (by omega) (by omega) HQ.out⟩
        case measure => simp [intOf]; omega
      · have HQ : Hid (sqB n ((lo + hi + 1) / 2) = false) := decide_eq_false hf
        go_wp2
        go_round
        case rel => exact ⟨lo, _, rfl, rfl, Within.no HF.out hin (by omega) (by omega) HQ.out⟩
        case measure => simp [intOf]; omega
    · go_wp2
      go_ret
      exact ⟨lo, rfl, hin.done (by omega), rfl⟩
theorem specRootDown_in (n : Int) (h1 : 0 ≤ n) (h2 : n ≤ 1000000000000000) (w : World) :
    Calls Try.prog 15 #[.int .i64 n] w fun e w' => ∃ r, Best (sqB n) 33554432 r ∧ isRes w 0 r e w' := by
  have i1 : inB n 0 1000000000000000 = true := inB_yes h1 h2
  go_enter Try.func15, Try.ntmps15
  go_wp2_with (first | (go_at_call 41; refine (l1In_any _ _ _ _).mono ?_; rintro e w' ⟨rfl, rfl⟩) | (go_at_call 42; refine (l1Root_any _ _).mono ?_; rintro e w' ⟨r, rfl, hb, rfl⟩))
  exact bodyPost_ret (v := .agg #[.int .i64 0, .int .i64 r]) (by simp [results, Try.results15, go_sem]) rfl ⟨r, hb, rfl, rfl⟩
theorem specRootDown_out (n : Int) (h : n < 0 ∨ 1000000000000000 < n) (w : World) :
    Calls Try.prog 15 #[.int .i64 n] w (isRes w 3 0) := by
  have i1 : inB n 0 1000000000000000 = false := inB_no h
  go_enter Try.func15, Try.ntmps15
  go_wp2_with (go_at_call 41; refine (l1In_any _ _ _ _).mono ?_; rintro e w' ⟨rfl, rfl⟩)
  exact bodyPost_ret (v := .agg #[.int .i64 3, .int .i64 0]) (by simp [results, Try.results15, go_sem]) rfl ⟨rfl, rfl⟩
end Go.Proofs.Ytdpapffocfogkaa
