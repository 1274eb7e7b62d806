/-
  Zones: MaskOf, FloorsOf, NearestIn, ZonesFault (the program).
-/
import Derived.Test.YtnpnlckdggakmaaZonQ
import Derived.Test.YtnpnlckdggakmaaZonE
import Derived.Test.YtnpnlckdggakmaaHouseJ
import Derived.Test.YtnpnlckdggakmaaHouseG
import Derived.BigGuardPart
namespace Go.Proofs.Ytnpnlckdggakmaa
open Go.RowKit Pl
set_option linter.unusedSimpArgs false
set_option linter.unusedVariables false

theorem pow_flI {h : Hs} (f1 : 2 ≤ h.fl) (f2 : h.fl ≤ 12) : wrap64 (wrap64 (2 ^ h.fl.toNat) - 1) = 2 ^ h.fl.toNat - 1 := by
  have e : (2 : Int) ^ h.fl.toNat = ((2 ^ h.fl.toNat : Nat) : Int) := by simp
  have l : 2 ^ h.fl.toNat ≤ 2 ^ 12 := Nat.pow_le_pow_right (by decide) (by omega)
  rw [e]
  generalize 2 ^ h.fl.toNat = z at *
  unfold wrap64
  omega
set_option maxRecDepth 20000 in
set_option maxHeartbeats 16000000 in
theorem lowBits_fl (h : Hs) (f1 : 2 ≤ h.fl) (f2 : h.fl ≤ 12) (w : World) :
    Calls Try.prog 77 #[.int .i64 h.fl] w fun e w' => e = .returned (.int .i64 (2 ^ h.fl.toNat - 1)) ∧ w' = w := by
  have ep := pow_flI f1 f2
  go_enter Try.func77, Try.ntmps77
  go_wp2
  go_ret
  exact ⟨ret_int ep, rfl⟩
set_option maxRecDepth 20000 in
set_option maxHeartbeats 16000000 in
theorem isMask_any (h : Hs) (m : Int) (f1 : 2 ≤ h.fl) (f2 : h.fl ≤ 12) (w : World) :
    Calls Try.prog 62 #[.agg #[.int .i64 h.fl, .int .i64 h.gp, .int .i64 h.ln, .int .i64 h.rf, .int .i64 h.sp, .int .i64 h.pu, .int .i64 h.br, .int .i64 h.dr, .int .i64 h.lv, .int .i64 h.dO, .int .i64 h.ld, .int .i64 h.qu], .int .i64 m] w fun e w' => e = .returned (.bool (h.right m)) ∧ Below w.heap.size w w' := by
  have FB : Hid (Below w.heap.size w (w.alloc (.cells #[.int .i64 h.fl, .int .i64 h.gp, .int .i64 h.ln, .int .i64 h.rf, .int .i64 h.sp, .int .i64 h.pu, .int .i64 h.br, .int .i64 h.dr, .int .i64 h.lv, .int .i64 h.dO, .int .i64 h.ld, .int .i64 h.qu] 25))) := (Below.refl _ _).alloc (Nat.le_refl _) _
  go_enter Try.func62, Try.ntmps62
  go_wp2_with (first | (go_at_call 77; refine (lowBits_fl h f1 f2 _).mono ?_; rintro e w' ⟨rfl, hw⟩; obtain rfl := hw.symm; clear hw) | (go_at_call 36; refine (isWithin_any _ _ _ _).mono ?_; rintro e w' ⟨rfl, hw⟩; obtain rfl := hw.symm; clear hw))
  go_ret
  exact ⟨rfl, FB.out⟩
end Go.Proofs.Ytnpnlckdggakmaa
