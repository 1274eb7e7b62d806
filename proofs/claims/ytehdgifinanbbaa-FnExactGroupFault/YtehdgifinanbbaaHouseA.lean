/-
  The model's house: how far apart floors must be, and its fault.
-/
import Derived.Test.YtehdgifinanbbaaStop
import Derived.Test.YtehdgifinanbbaaHouse
import Derived.Deep.QuietTactic
import Derived.BigQuiet
import Derived.Deep.Draws
import Derived.Deep.RegionHeld3
namespace Go.Proofs.Ytehdgifinanbbaa
open Go.RowKit Pl

theorem below_of_drawn {w W w' : World} {k : Nat} (e : w' = W.drewN k) (h : Below w.heap.size w W) : Below w.heap.size w w' := by
  rw [e]; exact ⟨h.os, h.tape, h.output, h.size, h.block⟩

theorem specApart_w (h : Hs) (h1 : 1 ≤ h.sp) (h2 : h.sp ≤ 500) (h3 : 1 ≤ h.br) (h5 : h.br ≤ 500) (h6 : 0 ≤ h.ln) (h7 : h.ln ≤ 20000) (h8 : 0 ≤ h.lv) (h9 : h.lv ≤ 50) (w : World) :
    Calls Try.prog 66 #[.agg #[.int .i64 h.fl, .int .i64 h.gp, .int .i64 h.ln, .int .i64 h.rf, .int .i64 h.sp, .int .i64 h.pu, .int .i64 h.br, .int .i64 h.dr, .int .i64 h.lv, .int .i64 h.dO, .int .i64 h.ld, .int .i64 h.qu]] w fun e w' => e = .returned (.int .i64 h.apart) ∧ ∃ k, w' = (w.alloc (.cells #[.int .i64 h.fl, .int .i64 h.gp, .int .i64 h.ln, .int .i64 h.rf, .int .i64 h.sp, .int .i64 h.pu, .int .i64 h.br, .int .i64 h.dr, .int .i64 h.lv, .int .i64 h.dO, .int .i64 h.ld, .int .i64 h.qu] 32)).drewN k := by
  obtain ⟨s1, s2⟩ := stop_small h.sp h.br h1 h2 h3
  have e1 : IntKind.i64.wrap (h.ln + h.sp) = h.ln + h.sp := IntWalk.i64_in _ (by omega)
  have e2 : IntKind.i64.wrap (h.ln + h.sp + stopP h.sp h.br) = h.ln + h.sp + stopP h.sp h.br := IntWalk.i64_in _ (by omega)
  have e3 : IntKind.i64.wrap (2 * h.lv) = 2 * h.lv := IntWalk.i64_in _ (by omega)
  have e4 : IntKind.i64.wrap (h.ln + h.sp + stopP h.sp h.br + 2 * h.lv) = h.ln + h.sp + stopP h.sp h.br + 2 * h.lv := IntWalk.i64_in _ (by omega)
  go_enter Try.func66, Try.ntmps66
  go_wp2_with fail
  go_quiet ((go_at_call 99; exact Calls.quiet_of_same (l1Stop_any _ _ (by omega) (by omega) (by omega) (by omega) _)))
  go_wp2
  go_ret
  exact ⟨rfl, _, rfl⟩
theorem specApart_any (h : Hs) (o : h.Ok) (w : World) :
    Calls Try.prog 66 #[.agg #[.int .i64 h.fl, .int .i64 h.gp, .int .i64 h.ln, .int .i64 h.rf, .int .i64 h.sp, .int .i64 h.pu, .int .i64 h.br, .int .i64 h.dr, .int .i64 h.lv, .int .i64 h.dO, .int .i64 h.ld, .int .i64 h.qu]] w fun e w' => e = .returned (.int .i64 h.apart) ∧ ∃ k, w' = (w.alloc (.cells #[.int .i64 h.fl, .int .i64 h.gp, .int .i64 h.ln, .int .i64 h.rf, .int .i64 h.sp, .int .i64 h.pu, .int .i64 h.br, .int .i64 h.dr, .int .i64 h.lv, .int .i64 h.dO, .int .i64 h.ld, .int .i64 h.qu] 32)).drewN k :=
  specApart_w h o.sp1 o.sp2 (by have := o.pu1; have := o.br1; omega) o.br2 (by have := o.ln1; omega) o.ln2 o.lv1 o.lv2 w
theorem specApart_wb (h : Hs) (h1 : 1 ≤ h.sp) (h2 : h.sp ≤ 500) (h3 : 1 ≤ h.br) (h5 : h.br ≤ 500) (h6 : 0 ≤ h.ln) (h7 : h.ln ≤ 20000) (h8 : 0 ≤ h.lv) (h9 : h.lv ≤ 50) (w : World) :
    Calls Try.prog 66 #[.agg #[.int .i64 h.fl, .int .i64 h.gp, .int .i64 h.ln, .int .i64 h.rf, .int .i64 h.sp, .int .i64 h.pu, .int .i64 h.br, .int .i64 h.dr, .int .i64 h.lv, .int .i64 h.dO, .int .i64 h.ld, .int .i64 h.qu]] w fun e w' => e = .returned (.int .i64 h.apart) ∧ Below w.heap.size w w' :=
  (specApart_w h h1 h2 h3 h5 h6 h7 h8 h9 w).mono fun _ _ ⟨he, _, hw⟩ => ⟨he, below_of_drawn hw ((Below.refl _ _).alloc (Nat.le_refl _) _)⟩
theorem apart_small (h : Hs) (h1 : 1 ≤ h.sp) (h2 : h.sp ≤ 500) (h3 : 1 ≤ h.br) (h6 : 0 ≤ h.ln) (h7 : h.ln ≤ 20000) (h8 : 0 ≤ h.lv) (h9 : h.lv ≤ 50) : 1 ≤ h.apart ∧ h.apart ≤ 5000000 := by
  obtain ⟨s1, s2⟩ := stop_small h.sp h.br h1 h2 h3
  unfold Hs.apart
  omega
end Go.Proofs.Ytehdgifinanbbaa
