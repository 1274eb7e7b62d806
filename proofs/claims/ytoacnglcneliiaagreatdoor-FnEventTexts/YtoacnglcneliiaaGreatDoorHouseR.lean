/-
  The model's house: are its numbers within their bounds?
-/
import Derived.Test.YtoacnglcneliiaaGreatDoorFnd
import Derived.BigGuardPart
namespace Go.Proofs.YtoacnglcneliiaaGreatDoor
open Go.RowKit Pl

/-- The range, as the walk spells it. -/
def rangeW (h : Hs) : Bool :=
  inB h.fl 2 12 && (inB h.gp 1 20000 && (inB h.rf 1 20000 && (inB h.ln 1 20000 && (inB h.sp 1 500 && (inB h.pu 1 h.sp && (inB h.br h.pu 500 && (inB h.dr 0 (wrap64 (h.pu - 1)) && (inB h.lv 0 50 && (inB h.dO 1 20 && (inB h.ld 1 20 && inB h.qu 1 40))))))))))
theorem rangeW_eq (h : Hs) : rangeW h = h.rangeB := by
  unfold rangeW Hs.rangeB
  cases h4 : inB h.sp 1 500 with
  | false => simp
  | true =>
    cases h5 : inB h.pu 1 h.sp with
    | false => simp
    | true =>
      have b4 := inB_iff.1 h4
      have b5 := inB_iff.1 h5
      rw [IntWalk.wrap64_in (h.pu - 1) (by omega)]
theorem ret_bool {a b : Bool} (h : a = b) : Ending.returned (.bool a) = .returned (.bool b) := by rw [h]

set_option maxHeartbeats 4000000 in
theorem specRange_walk (h : Hs) (w : World) :
    Calls Tryz.prog 57 #[.agg #[.int .i64 h.fl, .int .i64 h.gp, .int .i64 h.ln, .int .i64 h.rf, .int .i64 h.sp, .int .i64 h.pu, .int .i64 h.br, .int .i64 h.dr, .int .i64 h.lv, .int .i64 h.dO, .int .i64 h.ld, .int .i64 h.qu]] w fun e w' => e = .returned (.bool (rangeW h)) ∧ w' = w.alloc (.cells #[.int .i64 h.fl, .int .i64 h.gp, .int .i64 h.ln, .int .i64 h.rf, .int .i64 h.sp, .int .i64 h.pu, .int .i64 h.br, .int .i64 h.dr, .int .i64 h.lv, .int .i64 h.dO, .int .i64 h.ld, .int .i64 h.qu] 25) := by
  go_enter Tryz.func57, Tryz.ntmps57
  go_wp2_with (go_at_call 58; refine (l1In_any _ _ _ _).mono ?_; rintro e w' ⟨rfl, rfl⟩)
  all_goals
    go_ret
    exact ⟨ret_bool (by simp [rangeW, *]), rfl⟩
theorem specRange_any (h : Hs) (w : World) :
    Calls Tryz.prog 57 #[.agg #[.int .i64 h.fl, .int .i64 h.gp, .int .i64 h.ln, .int .i64 h.rf, .int .i64 h.sp, .int .i64 h.pu, .int .i64 h.br, .int .i64 h.dr, .int .i64 h.lv, .int .i64 h.dO, .int .i64 h.ld, .int .i64 h.qu]] w fun e w' => e = .returned (.bool h.rangeB) ∧ w' = w.alloc (.cells #[.int .i64 h.fl, .int .i64 h.gp, .int .i64 h.ln, .int .i64 h.rf, .int .i64 h.sp, .int .i64 h.pu, .int .i64 h.br, .int .i64 h.dr, .int .i64 h.lv, .int .i64 h.dO, .int .i64 h.ld, .int .i64 h.qu] 25) := by
  have := specRange_walk h w
  rwa [rangeW_eq] at this
end Go.Proofs.YtoacnglcneliiaaGreatDoor
