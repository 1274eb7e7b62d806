/-
  Zones: what the bytes draw.
-/
import Derived.Test.YtnpnlckdggakmaaGnr
import Derived.Test.YtnpnlckdggakmaaCarS
import Derived.Test.YtnpnlckdggakmaaZonQ
import Derived.Deep.DeepCutAuto
namespace Go.Proofs.Ytnpnlckdggakmaa
open Go.RowKit Pl
set_option linter.unusedSimpArgs false
set_option linter.unusedVariables false

set_option maxRecDepth 20000 in
set_option maxHeartbeats 16000000 in
theorem l12Mask_t (h : Hs) (f1 : 1 ≤ h.fl) (f2 : h.fl ≤ 13) (sb B : Nat) (a : Option Addr) (len cap T : Nat) (w : World) (hS : SrcT w sb B a len cap T) (hT : T ≤ 800000) :
    Calls Try.prog 82 #[.pointer (some ⟨sb, 0, none⟩), .agg #[.int .i64 h.fl, .int .i64 h.gp, .int .i64 h.ln, .int .i64 h.rf, .int .i64 h.sp, .int .i64 h.pu, .int .i64 h.br, .int .i64 h.dr, .int .i64 h.lv, .int .i64 h.dO, .int .i64 h.ld, .int .i64 h.qu]] w fun e w' => ∃ m : Int, e = .returned (.int .i64 m) ∧ SrcT w' sb B a len cap (T + 4) ∧ Keeps sb w w' := by
  obtain ⟨fl, gp, ln, rf, sp, pu, br, dr, lv, dO, ld, qu⟩ := h
  dsimp only at f1 f2
  have lsb := hS.lt
  obtain ⟨b0, hb0⟩ : ∃ b0, b0 = w.heap.size := ⟨_, rfl⟩
  obtain ⟨W0, hW0⟩ : ∃ W0, W0 = w.alloc (.cells #[.int .i64 fl, .int .i64 gp, .int .i64 ln, .int .i64 rf, .int .i64 sp, .int .i64 pu, .int .i64 br, .int .i64 dr, .int .i64 lv, .int .i64 dO, .int .i64 ld, .int .i64 qu] 25) := ⟨_, rfl⟩
  have F0 : Hid (Blk W0 b0 [.int .i64 fl, .int .i64 gp, .int .i64 ln, .int .i64 rf, .int .i64 sp, .int .i64 pu, .int .i64 br, .int .i64 dr, .int .i64 lv, .int .i64 dO, .int .i64 ld, .int .i64 qu]) := by rw [hW0]; exact Blk.at_ _ #[.int .i64 fl, .int .i64 gp, .int .i64 ln, .int .i64 rf, .int .i64 sp, .int .i64 pu, .int .i64 br, .int .i64 dr, .int .i64 lv, .int .i64 dO, .int .i64 ld, .int .i64 qu] _ _ hb0
  have FS : Hid (SrcT W0 sb B a len cap T) := by rw [hW0]; exact hS.alloc _
  have FK : Hid (Keeps sb w W0) := by rw [hW0]; exact (Keeps.refl _ _).alloc _
  have nb0 : sb < b0 := by omega
  clear hS
  go_enter Try.func82, Try.ntmps82
  go_upto_region 1 with fail
  rw [← hb0, ← hW0]
  clear hb0 hW0
  go_cut [5] from 6 to 30 (fun v wx => ∃ tp : Int, v = .int .i64 tp ∧ 1 ≤ tp ∧ tp ≤ 8191 ∧ wx = W0)
  case first =>
    have c0 := F0.out.c 0 _ rfl
    clear FS FK
    rcases (show fl = 1 ∨ fl = 2 ∨ fl = 3 ∨ fl = 4 ∨ fl = 5 ∨ fl = 6 ∨ fl = 7 ∨ fl = 8 ∨ fl = 9 ∨ fl = 10 ∨ fl = 11 ∨ fl = 12 ∨ fl = 13 by omega) with rfl | rfl | rfl | rfl | rfl | rfl | rfl | rfl | rfl | rfl | rfl | rfl | rfl
    all_goals
      go_wp2_with (first | (go_at_call 87; refine (l1Min_any _ _ _).mono ?_; rintro e w' ⟨rfl, rfl⟩) | (go_at_call 86; refine (l1Max_any _ _ _).mono ?_; rintro e w' ⟨rfl, rfl⟩))
      go_meet
      case rel => exact ⟨_, rfl, by decide +kernel, by decide +kernel, rfl⟩
  case rest =>
  obtain ⟨tp, rfl, t1, t2, hw_⟩ := hcut
  obtain rfl := hw_.symm
  clear hw_
  go_wp2_with (first | (go_at_call 50; (fail_if_success have := G1); refine (l1Next_tW sb B a len cap T (tp + 1) _ FS.out (by omega) (by omega) (by omega)).mono ?_; rintro e w1 ⟨v1, rfl, -, hs, hk⟩; have F0 : Hid (Blk w1 b0 [.int .i64 fl, .int .i64 gp, .int .i64 ln, .int .i64 rf, .int .i64 sp, .int .i64 pu, .int .i64 br, .int .i64 dr, .int .i64 lv, .int .i64 dO, .int .i64 ld, .int .i64 qu]) := F0.out.keeps hk (by omega); have FS : Hid (SrcT w1 sb B a len cap (T + 1)) := hs; have FK : Hid (Keeps sb w w1) := FK.out.trans hk; clear hs hk; have G1 := trivial) | (go_at_call 50; (fail_if_success have := G2); refine (l1Next_tW sb B a len cap (T + 1) (tp + 1) _ FS.out (by omega) (by omega) (by omega)).mono ?_; rintro e w2 ⟨v2, rfl, -, hs, hk⟩; have F0 : Hid (Blk w2 b0 [.int .i64 fl, .int .i64 gp, .int .i64 ln, .int .i64 rf, .int .i64 sp, .int .i64 pu, .int .i64 br, .int .i64 dr, .int .i64 lv, .int .i64 dO, .int .i64 ld, .int .i64 qu]) := F0.out.keeps hk (by omega); have FS : Hid (SrcT w2 sb B a len cap (T + 1 + 1)) := hs; have FK : Hid (Keeps sb w w2) := FK.out.trans hk; clear hs hk; have G2 := trivial) | (go_at_call 50; refine (l1Next_tW sb B a len cap (T + 1 + 1) (tp + 1) _ FS.out (by omega) (by omega) (by omega)).mono ?_; rintro e w3 ⟨v3, rfl, -, hs, hk⟩; have F0 : Hid (Blk w3 b0 [.int .i64 fl, .int .i64 gp, .int .i64 ln, .int .i64 rf, .int .i64 sp, .int .i64 pu, .int .i64 br, .int .i64 dr, .int .i64 lv, .int .i64 dO, .int .i64 ld, .int .i64 qu]) := F0.out.keeps hk (by omega); have FS : Hid (SrcT w3 sb B a len cap (T + 1 + 1 + 1)) := hs; have FK : Hid (Keeps sb w w3) := FK.out.trans hk; clear hs hk) | (go_at_call 34; refine (l1Pick_at_t sb B 2 [(v1 : Int), v2, v3, tp, 0, tp + 1, -1] a len cap (T + 1 + 1 + 1) w3 _ rfl FS.out (by omega) (by simp) (by simp)).mono ?_; rintro e w4 ⟨v4, rfl, hs, hk⟩; have FS : Hid (SrcT w4 sb B a len cap (T + 1 + 1 + 1 + 1)) := hs; have FK : Hid (Keeps sb w w4) := FK.out.trans hk; clear hs hk))
  go_ret
  first | exact ⟨v4, rfl, FS.out, FK.out⟩ | exact ⟨⟨v4, rfl⟩, FS.out, FK.out⟩
end Go.Proofs.Ytnpnlckdggakmaa
