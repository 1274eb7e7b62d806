/-
  The program's house: the places of its floors and refuges, its ends, the bounds of a run and of a service.
-/
import Derived.Test.YtgedakdbcjppnaaHouseJ
import Derived.Test.YtgedakdbcjppnaaHouseL
import Derived.Test.YtgedakdbcjppnaaHouseE
import Derived.Test.YtgedakdbcjppnaaFnd
namespace Go.Proofs.Ytgedakdbcjppnaa
open Go.RowKit Pl

theorem placeOf_any (h : Hs) (o : h.Ok) (f : Int) (f1 : -1 ≤ f) (f2 : f ≤ h.fl) (w : World) :
    Calls Try.prog 27 #[.agg #[.int .i64 h.fl, .int .i64 h.gp, .int .i64 h.ln, .int .i64 h.rf, .int .i64 h.sp, .int .i64 h.pu, .int .i64 h.br, .int .i64 h.dr, .int .i64 h.lv, .int .i64 h.dO, .int .i64 h.ld, .int .i64 h.qu], .int .i64 f] w fun e w' => e = .returned (.int .i64 (h.level f)) ∧ Below w.heap.size w w' := by
  have r1 := o.rf1; have r2 := o.rf2; have g1 := o.gp1; have g2 := o.gp2; have l1 := o.fl1; have l2 := o.fl2
  obtain ⟨t1, t2⟩ := o.top_bd
  by_cases c1 : f = -1
  · subst c1
    have e : Hid (h.level (-1) = -h.rf) := by unfold Hs.level; rw [if_pos (by omega)]; exact rfl
    clear o
    go_enter Try.func27, Try.ntmps27
    go_wp2
    go_ret
    exact ⟨ret_int e.out.symm, (Below.refl _ _).alloc (Nat.le_refl _) _⟩
  · obtain ⟨u1, u2⟩ := o.floor_bd f (by omega) (by omega)
    have b1 : (f == -1) = false := by simpa using c1
    by_cases c2 : f = h.fl
    · have e : Hid (h.level f = (h.fl - 1) * h.gp + h.rf) := by unfold Hs.level; rw [if_neg (by omega), if_pos (by omega)]; exact rfl
      have b2 : (f == h.fl) = true := by simpa using c2
      clear o c2
      go_enter Try.func27, Try.ntmps27
      go_wp2
      go_ret
      exact ⟨ret_int e.out.symm, (Below.refl _ _).alloc (Nat.le_refl _) _⟩
    · have e : Hid (h.level f = f * h.gp) := by unfold Hs.level; rw [if_neg (by omega), if_neg (by omega)]; exact rfl
      have b2 : (f == h.fl) = false := by simpa using c2
      clear o c2
      go_enter Try.func27, Try.ntmps27
      go_wp2
      go_ret
      exact ⟨ret_int e.out.symm, (Below.refl _ _).alloc (Nat.le_refl _) _⟩

end Go.Proofs.Ytgedakdbcjppnaa
