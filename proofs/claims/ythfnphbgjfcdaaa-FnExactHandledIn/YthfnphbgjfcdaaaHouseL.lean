/-
  The model's house: the places of its floors and refuges, and its ends.
-/
import Derived.Test.YthfnphbgjfcdaaaFnd
namespace Go.Proofs.Ythfnphbgjfcdaaa
open Go.RowKit Pl

theorem specLevel_any (h : Hs) (o : h.Ok) (f : Int) (f1 : -1 ≤ f) (f2 : f ≤ 12) (w : World) :
    Calls Try.prog 41 #[.agg #[.int .i64 h.fl, .int .i64 h.gp, .int .i64 h.ln, .int .i64 h.rf, .int .i64 h.sp, .int .i64 h.pu, .int .i64 h.br, .int .i64 h.dr, .int .i64 h.lv, .int .i64 h.dO, .int .i64 h.ld, .int .i64 h.qu], .int .i64 f] w fun e w' => e = .returned (.int .i64 (h.level f)) ∧ w' = w.alloc (.cells #[.int .i64 h.fl, .int .i64 h.gp, .int .i64 h.ln, .int .i64 h.rf, .int .i64 h.sp, .int .i64 h.pu, .int .i64 h.br, .int .i64 h.dr, .int .i64 h.lv, .int .i64 h.dO, .int .i64 h.ld, .int .i64 h.qu] 27) := by
  have r1 := o.rf1; have r2 := o.rf2; have g1 := o.gp1; have g2 := o.gp2; have l1 := o.fl1; have l2 := o.fl2
  obtain ⟨t1, t2⟩ := o.top_bd
  by_cases c1 : f < 0
  · have e : Hid (h.level f = -h.rf) := by unfold Hs.level; rw [if_pos c1]; exact rfl
    clear o
    go_enter Try.func41, Try.ntmps41
    go_wp2
    go_ret
    exact ⟨ret_int e.out.symm, rfl⟩
  · obtain ⟨u1, u2⟩ := o.floor_bd f (by omega) f2
    by_cases c2 : h.fl ≤ f
    · have e : Hid (h.level f = (h.fl - 1) * h.gp + h.rf) := by unfold Hs.level; rw [if_neg c1, if_pos c2]; exact rfl
      clear o
      go_enter Try.func41, Try.ntmps41
      go_wp2
      go_ret
      exact ⟨ret_int e.out.symm, rfl⟩
    · have e : Hid (h.level f = f * h.gp) := by unfold Hs.level; rw [if_neg c1, if_neg c2]; exact rfl
      clear o
      go_enter Try.func41, Try.ntmps41
      go_wp2
      go_ret
      exact ⟨ret_int e.out.symm, rfl⟩

end Go.Proofs.Ythfnphbgjfcdaaa
