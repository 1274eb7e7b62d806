/-
  At every group and every shaft LeadOf answers as the model, field by field, and leaves its arguments as they were. No condition.
-/
import Derived.Test.YtfmpfcpefflmjaaGreatRows
import Derived.WalkKit
import Derived.ProofKit
import Derived.OpenShut
import Derived.ChangeOld
import Derived.Below
import Derived.Test.YtfmpfcpefflmjaaGreatNeL
import Derived.Test.YtfmpfcpefflmjaaGreatOpenG
namespace Go.Proofs.YtfmpfcpefflmjaaGreat.fnExactLeadOf
open Go.ChangeShapes Go.WideShapes Go.ChangeAt Go.RowKit
set_option linter.unusedVariables false
set_option linter.unusedSimpArgs false

theorem own : ownKnob Tryz.prog.godebug = none := by kernel_rfl
theorem laidOut : laidOutB Tryz.prog = true := by kernel_rfl

set_option maxRecDepth 20000 in
set_option maxHeartbeats 32000000 in
theorem walk (a0 : Pl.Gr) (a1 : Int) (d0 : Option Addr) (e0 : Nat) (p0 : Option Addr) (n0 : Nat) (w0 : a0.ds.length ≤ maxLen) (l0 : a0.led.ps.length ≤ maxLen) (w1 : (Lit.int .i64 a1).wf = true) (w : World) (q0 : DIn w w.heap.size d0 a0.ds) (r0 : PIn w w.heap.size p0 a0.led.ps) :
    Calls Tryz.prog 3 #[.agg #[.int .i64 a0.h.fl, .int .i64 a0.h.gp, .int .i64 a0.h.ln, .int .i64 a0.h.rf, .int .i64 a0.h.sp, .int .i64 a0.h.pu, .int .i64 a0.h.br, .int .i64 a0.h.dr, .int .i64 a0.h.lv, .int .i64 a0.h.dO, .int .i64 a0.h.ld, .int .i64 a0.h.qu, .slice d0 a0.ds.length e0, .int .i64 a0.led.nx, .slice p0 a0.led.ps.length n0, .int .i64 a0.tk, .bool a0.rc], .int .i64 a1] w fun e w' => e = .returned (.bool true) ∧ Below w.heap.size w w' := by
  obtain ⟨h, ds, ⟨nx, ps⟩, tk, rc⟩ := a0
  dsimp only at q0 r0 w0 l0 ⊢
  have HD : Hid (DIn w w.heap.size d0 ds) := q0
  have HP : Hid (PIn w w.heap.size p0 ps) := r0
  clear q0 r0
  have F0 : Hid (Blk (w.alloc (.cells #[.int .i64 h.fl, .int .i64 h.gp, .int .i64 h.ln, .int .i64 h.rf, .int .i64 h.sp, .int .i64 h.pu, .int .i64 h.br, .int .i64 h.dr, .int .i64 h.lv, .int .i64 h.dO, .int .i64 h.ld, .int .i64 h.qu, .slice d0 ds.length e0, .int .i64 nx, .slice p0 ps.length n0, .int .i64 tk, .bool rc] 29)) w.heap.size (gvs h (.slice d0 ds.length e0) nx (.slice p0 ps.length n0) tk rc)) := Blk.at_ w #[.int .i64 h.fl, .int .i64 h.gp, .int .i64 h.ln, .int .i64 h.rf, .int .i64 h.sp, .int .i64 h.pu, .int .i64 h.br, .int .i64 h.dr, .int .i64 h.lv, .int .i64 h.dO, .int .i64 h.ld, .int .i64 h.qu, .slice d0 ds.length e0, .int .i64 nx, .slice p0 ps.length n0, .int .i64 tk, .bool rc] _ _ rfl
  have FB : Hid (Below w.heap.size w (w.alloc (.cells #[.int .i64 h.fl, .int .i64 h.gp, .int .i64 h.ln, .int .i64 h.rf, .int .i64 h.sp, .int .i64 h.pu, .int .i64 h.br, .int .i64 h.dr, .int .i64 h.lv, .int .i64 h.dO, .int .i64 h.ld, .int .i64 h.qu, .slice d0 ds.length e0, .int .i64 nx, .slice p0 ps.length n0, .int .i64 tk, .bool rc] 29))) := (Below.refl _ _).alloc (Nat.le_refl _) _
  obtain ⟨W0, hW0⟩ : ∃ W0, W0 = (w.alloc (.cells #[.int .i64 h.fl, .int .i64 h.gp, .int .i64 h.ln, .int .i64 h.rf, .int .i64 h.sp, .int .i64 h.pu, .int .i64 h.br, .int .i64 h.dr, .int .i64 h.lv, .int .i64 h.dO, .int .i64 h.ld, .int .i64 h.qu, .slice d0 ds.length e0, .int .i64 nx, .slice p0 ps.length n0, .int .i64 tk, .bool rc] 29)) := ⟨_, rfl⟩
  rw [← hW0] at F0 FB
  have HW0 : Hid (W0 = (w.alloc (.cells #[.int .i64 h.fl, .int .i64 h.gp, .int .i64 h.ln, .int .i64 h.rf, .int .i64 h.sp, .int .i64 h.pu, .int .i64 h.br, .int .i64 h.dr, .int .i64 h.lv, .int .i64 h.dO, .int .i64 h.ld, .int .i64 h.qu, .slice d0 ds.length e0, .int .i64 nx, .slice p0 ps.length n0, .int .i64 tk, .bool rc] 29))) := hW0
  clear hW0
  by_cases hl : ds.length + ps.length ≤ 1048576
  case neg =>
    have hs : (if (1048576 : Int) < (ds.length : Int) + ps.length then (-1 : Int) else 1048576 - ds.length - ps.length) = -1 := if_pos (by omega)
    go_enter Tryz.func3, Tryz.ntmps3
    go_upto_region 2 with fail
    rw [← HW0.out]
    go_wp2_with (first | (refine load_blk 29 _ Tryz.underlying29 (by kernel_rfl) F0.out rfl rfl rfl ?_) | (go_at_call 4; refine (szGroup_any h d0 ds.length e0 nx p0 ps.length n0 tk rc w0 l0 _).mono ?_; rw [hs]; rintro e w1 ⟨rfl, hb⟩; have FB : Hid (Below w.heap.size w w1) := FB.out.trans (hb.mono FB.out.size); clear hb))
    go_ret
    exact ⟨by simp, FB.out⟩
  have hld : ds.length ≤ 1048576 := by omega
  have hlp : ps.length ≤ 1048576 := by omega
  obtain ⟨r, CS, CI⟩ : ∃ (r : Int × Int × Int), (∀ (gd gp : Nat) (W : World), GO W w.heap.size gd gp ds ps → Calls Tryz.prog 5 #[.agg #[.int .i64 h.fl, .int .i64 h.gp, .int .i64 h.ln, .int .i64 h.rf, .int .i64 h.sp, .int .i64 h.pu, .int .i64 h.br, .int .i64 h.dr, .int .i64 h.lv, .int .i64 h.dO, .int .i64 h.ld, .int .i64 h.qu, .slice (some ⟨gd, 0, none⟩) ds.length ds.length, .int .i64 nx, .slice (some ⟨gp, 0, none⟩) ps.length ps.length, .int .i64 tk, .bool rc], .int .i64 a1] W (fun e w' => e = .returned (.agg #[.int .i64 r.1, .int .i64 r.2.1, .int .i64 r.2.2]) ∧ Below W.heap.size W w')) ∧ (∀ (gd gp : Nat) (W : World), GO W w.heap.size gd gp ds ps → Calls Tryz.prog 7 #[.agg #[.int .i64 h.fl, .int .i64 h.gp, .int .i64 h.ln, .int .i64 h.rf, .int .i64 h.sp, .int .i64 h.pu, .int .i64 h.br, .int .i64 h.dr, .int .i64 h.lv, .int .i64 h.dO, .int .i64 h.ld, .int .i64 h.qu, .slice (some ⟨gd, 0, none⟩) ds.length ds.length, .int .i64 nx, .slice (some ⟨gp, 0, none⟩) ps.length ps.length, .int .i64 tk, .bool rc], .int .i64 a1] W (fun e w' => e = .returned (.agg #[.int .i64 r.1, .int .i64 r.2.1, .int .i64 r.2.2]) ∧ Below W.heap.size W w')) := ⟨_, fun gd gp W ho => specLeadOf_any h ds (some ⟨gd, 0, none⟩) ds.length nx ps (some ⟨gp, 0, none⟩) ps.length tk rc a1 hld hlp W ho.din ho.pin, fun gd gp W ho => implLeadOf_any h ds (some ⟨gd, 0, none⟩) ds.length nx ps (some ⟨gp, 0, none⟩) ps.length tk rc a1 hld hlp W ho.din ho.pin⟩
  have hs : (if (1048576 : Int) < (ds.length : Int) + ps.length then (-1 : Int) else 1048576 - ds.length - ps.length) = 1048576 - ds.length - ps.length := if_neg (by omega)
  have hs2 : ¬ ((1048576 : Int) - ds.length - ps.length < 0) := by omega
  go_enter Tryz.func3, Tryz.ntmps3
  go_upto_region 2 with fail
  rw [← HW0.out]
  clear HW0
  go_upto_region 5 with (first | (refine load_blk 29 _ Tryz.underlying29 (by kernel_rfl) F0.out rfl rfl rfl ?_) | (go_at_call 4; refine (szGroup_any h d0 ds.length e0 nx p0 ps.length n0 tk rc w0 l0 _).mono ?_; rw [hs]; rintro e w1 ⟨rfl, hb⟩; have F0 : Hid (Blk w1 w.heap.size (gvs h (.slice d0 ds.length e0) nx (.slice p0 ps.length n0) tk rc)) := F0.out.below hb F0.out.lt; have FB : Hid (Below w.heap.size w w1) := FB.out.trans (hb.mono FB.out.size); clear hb))
  clear hs hs2
  go_upto_region 6 with (first | (refine load_blk 29 _ Tryz.underlying29 (by kernel_rfl) F0.out rfl rfl rfl ?_) | (go_at_call 6; refine (toGroup_any h ds d0 e0 nx ps p0 n0 tk rc hld hlp _ ((HD.out.below FB.out (Nat.le_refl _)).mono FB.out.size) ((HP.out.below FB.out (Nat.le_refl _)).mono FB.out.size)).mono ?_; rintro e w2 ⟨gd1, gp1, rfl, ho, hb⟩; have O1 : Hid (GO w2 w.heap.size gd1 gp1 ds ps) := ho.base FB.out.size; have lo1 := ho.ge; clear ho; have F0 : Hid (Blk w2 w.heap.size (gvs h (.slice d0 ds.length e0) nx (.slice p0 ps.length n0) tk rc)) := F0.out.below hb F0.out.lt; have FB : Hid (Below w.heap.size w w2) := FB.out.trans (hb.mono FB.out.size); clear hb) | (go_at_call 5; refine (CS gd1 gp1 _ O1.out).mono ?_; rintro e w3 ⟨rfl, hb⟩; have F0 : Hid (Blk w3 w.heap.size (gvs h (.slice d0 ds.length e0) nx (.slice p0 ps.length n0) tk rc)) := F0.out.below hb F0.out.lt; have FB : Hid (Below w.heap.size w w3) := FB.out.trans (hb.mono FB.out.size); clear hb) | (refine store_new [.int .i64 r.1, .int .i64 r.2.1, .int .i64 r.2.2] 32 _ _ (by kernel_rfl) (by kernel_rfl) (by kernel_rfl) rfl rfl rfl rfl ?_))
  obtain ⟨br1, hbr1⟩ : ∃ br1, br1 = w3.heap.size := ⟨_, rfl⟩
  obtain ⟨W3, hW3⟩ : ∃ W3, W3 = w3.alloc (.cells ([.int .i64 r.1, .int .i64 r.2.1, .int .i64 r.2.2]).toArray 32) := ⟨_, rfl⟩
  have lbr1 : Hid (w.heap.size < br1) := by rw [hbr1]; exact F0.out.lt
  have F0 : Hid (Blk W3 w.heap.size (gvs h (.slice d0 ds.length e0) nx (.slice p0 ps.length n0) tk rc)) := by rw [hW3]; exact F0.out.alloc _
  have R1 : Hid (Blk W3 br1 ([.int .i64 r.1, .int .i64 r.2.1, .int .i64 r.2.2])) := by rw [hW3]; exact Blk.at_ w3 ([.int .i64 r.1, .int .i64 r.2.1, .int .i64 r.2.2]).toArray _ _ hbr1
  have FB : Hid (Below w.heap.size w W3) := by rw [hW3]; exact FB.out.alloc FB.out.size _
  rw [← hW3, ← hbr1]
  clear hW3 hbr1
  go_upto_region 7 with (first | (refine load_blk 29 _ Tryz.underlying29 (by kernel_rfl) F0.out rfl rfl rfl ?_) | (go_at_call 6; refine (toGroup_any h ds d0 e0 nx ps p0 n0 tk rc hld hlp _ ((HD.out.below FB.out (Nat.le_refl _)).mono FB.out.size) ((HP.out.below FB.out (Nat.le_refl _)).mono FB.out.size)).mono ?_; rintro e w4 ⟨gd2, gp2, rfl, ho, hb⟩; have O2 : Hid (GO w4 w.heap.size gd2 gp2 ds ps) := ho.base FB.out.size; have lo2 := ho.ge; clear ho; have F0 : Hid (Blk w4 w.heap.size (gvs h (.slice d0 ds.length e0) nx (.slice p0 ps.length n0) tk rc)) := F0.out.below hb F0.out.lt; have R1 : Hid (Blk w4 br1 [.int .i64 r.1, .int .i64 r.2.1, .int .i64 r.2.2]) := R1.out.below hb R1.out.lt; have FB : Hid (Below w.heap.size w w4) := FB.out.trans (hb.mono FB.out.size); clear hb) | (refine store_new (gvs h (.slice (some ⟨gd2, 0, none⟩) ds.length ds.length) nx (.slice (some ⟨gp2, 0, none⟩) ps.length ps.length) tk rc) 40 _ _ (by kernel_rfl) (by kernel_rfl) (by kernel_rfl) rfl rfl rfl rfl ?_))
  obtain ⟨bx, hbx⟩ : ∃ bx, bx = w4.heap.size := ⟨_, rfl⟩
  obtain ⟨W4, hW4⟩ : ∃ W4, W4 = w4.alloc (.cells (gvs h (.slice (some ⟨gd2, 0, none⟩) ds.length ds.length) nx (.slice (some ⟨gp2, 0, none⟩) ps.length ps.length) tk rc).toArray 40) := ⟨_, rfl⟩
  have lbx : Hid (w.heap.size < bx) := by rw [hbx]; exact F0.out.lt
  have F0 : Hid (Blk W4 w.heap.size (gvs h (.slice d0 ds.length e0) nx (.slice p0 ps.length n0) tk rc)) := by rw [hW4]; exact F0.out.alloc _
  have R1 : Hid (Blk W4 br1 [.int .i64 r.1, .int .i64 r.2.1, .int .i64 r.2.2]) := by rw [hW4]; exact R1.out.alloc _
  have O2 : Hid (GO W4 w.heap.size gd2 gp2 ds ps) := by rw [hW4]; exact O2.out.alloc _
  have FX : Hid (Blk W4 bx (gvs h (.slice (some ⟨gd2, 0, none⟩) ds.length ds.length) nx (.slice (some ⟨gp2, 0, none⟩) ps.length ps.length) tk rc)) := by rw [hW4]; exact Blk.at_ w4 (gvs h (.slice (some ⟨gd2, 0, none⟩) ds.length ds.length) nx (.slice (some ⟨gp2, 0, none⟩) ps.length ps.length) tk rc).toArray _ _ hbx
  have FB : Hid (Below w.heap.size w W4) := by rw [hW4]; exact FB.out.alloc FB.out.size _
  rw [← hW4, ← hbx]
  clear hW4 hbx
  go_upto_region 8 with (first | (refine load_blk 40 _ Tryz.underlying40 (by kernel_rfl) FX.out rfl rfl rfl ?_) | (go_at_call 7; refine (CI gd2 gp2 _ O2.out).mono ?_; rintro e w5 ⟨rfl, hb⟩; have F0 : Hid (Blk w5 w.heap.size (gvs h (.slice d0 ds.length e0) nx (.slice p0 ps.length n0) tk rc)) := F0.out.below hb F0.out.lt; have R1 : Hid (Blk w5 br1 [.int .i64 r.1, .int .i64 r.2.1, .int .i64 r.2.2]) := R1.out.below hb R1.out.lt; have O2 : Hid (GO w5 w.heap.size gd2 gp2 ds ps) := O2.out.below hb O2.out.lt; have FX : Hid (Blk w5 bx (gvs h (.slice (some ⟨gd2, 0, none⟩) ds.length ds.length) nx (.slice (some ⟨gp2, 0, none⟩) ps.length ps.length) tk rc)) := FX.out.below hb FX.out.lt; have FB : Hid (Below w.heap.size w w5) := FB.out.trans (hb.mono FB.out.size); clear hb) | (refine store_new [.int .i64 r.1, .int .i64 r.2.1, .int .i64 r.2.2] 32 _ _ (by kernel_rfl) (by kernel_rfl) (by kernel_rfl) rfl rfl rfl rfl ?_))
  obtain ⟨br2, hbr2⟩ : ∃ br2, br2 = w5.heap.size := ⟨_, rfl⟩
  obtain ⟨W5, hW5⟩ : ∃ W5, W5 = w5.alloc (.cells ([.int .i64 r.1, .int .i64 r.2.1, .int .i64 r.2.2]).toArray 32) := ⟨_, rfl⟩
  have lbr2 : Hid (w.heap.size < br2) := by rw [hbr2]; exact F0.out.lt
  have F0 : Hid (Blk W5 w.heap.size (gvs h (.slice d0 ds.length e0) nx (.slice p0 ps.length n0) tk rc)) := by rw [hW5]; exact F0.out.alloc _
  have R1 : Hid (Blk W5 br1 [.int .i64 r.1, .int .i64 r.2.1, .int .i64 r.2.2]) := by rw [hW5]; exact R1.out.alloc _
  have O2 : Hid (GO W5 w.heap.size gd2 gp2 ds ps) := by rw [hW5]; exact O2.out.alloc _
  have FX : Hid (Blk W5 bx (gvs h (.slice (some ⟨gd2, 0, none⟩) ds.length ds.length) nx (.slice (some ⟨gp2, 0, none⟩) ps.length ps.length) tk rc)) := by rw [hW5]; exact FX.out.alloc _
  have R2 : Hid (Blk W5 br2 ([.int .i64 r.1, .int .i64 r.2.1, .int .i64 r.2.2])) := by rw [hW5]; exact Blk.at_ w5 ([.int .i64 r.1, .int .i64 r.2.1, .int .i64 r.2.2]).toArray _ _ hbr2
  have FB : Hid (Below w.heap.size w W5) := by rw [hW5]; exact FB.out.alloc FB.out.size _
  rw [← hW5, ← hbr2]
  clear hW5 hbr2
  go_upto_region 10 with (first | (refine load_blk 32 _ Tryz.underlying32 (by kernel_rfl) R2.out rfl rfl rfl ?_) | (refine load_blk 32 _ Tryz.underlying32 (by kernel_rfl) R1.out rfl rfl rfl ?_) | (go_at_call 8; refine (eqWhereResult_same r.1 r.2.1 r.2.2 _).mono ?_; rintro e w6 ⟨rfl, hb⟩; have F0 : Hid (Blk w6 w.heap.size (gvs h (.slice d0 ds.length e0) nx (.slice p0 ps.length n0) tk rc)) := F0.out.below hb F0.out.lt; have R1 : Hid (Blk w6 br1 [.int .i64 r.1, .int .i64 r.2.1, .int .i64 r.2.2]) := R1.out.below hb R1.out.lt; have O2 : Hid (GO w6 w.heap.size gd2 gp2 ds ps) := O2.out.below hb O2.out.lt; have FX : Hid (Blk w6 bx (gvs h (.slice (some ⟨gd2, 0, none⟩) ds.length ds.length) nx (.slice (some ⟨gp2, 0, none⟩) ps.length ps.length) tk rc)) := FX.out.below hb FX.out.lt; have FB : Hid (Below w.heap.size w w6) := FB.out.trans (hb.mono FB.out.size); clear hb))
  have F0 : Hid (Blk w6.drew w.heap.size (gvs h (.slice d0 ds.length e0) nx (.slice p0 ps.length n0) tk rc)) := F0.out.below (Below.refl _ _).drew F0.out.lt
  have O2 : Hid (GO w6.drew w.heap.size gd2 gp2 ds ps) := O2.out.below (Below.refl _ _).drew O2.out.lt
  have FX : Hid (Blk w6.drew bx (gvs h (.slice (some ⟨gd2, 0, none⟩) ds.length ds.length) nx (.slice (some ⟨gp2, 0, none⟩) ps.length ps.length) tk rc)) := FX.out.below (Below.refl _ _).drew FX.out.lt
  have FB : Hid (Below w.heap.size w w6.drew) := FB.out.drew
  have x0 := F0.out.c 0 _ rfl
  have x1 := F0.out.c 1 _ rfl
  have x2 := F0.out.c 2 _ rfl
  have x3 := F0.out.c 3 _ rfl
  have x4 := F0.out.c 4 _ rfl
  have x5 := F0.out.c 5 _ rfl
  have x6 := F0.out.c 6 _ rfl
  have x7 := F0.out.c 7 _ rfl
  have x8 := F0.out.c 8 _ rfl
  have x9 := F0.out.c 9 _ rfl
  have x10 := F0.out.c 10 _ rfl
  have x11 := F0.out.c 11 _ rfl
  have x12 := F0.out.c 12 _ rfl
  have x13 := F0.out.c 13 _ rfl
  have x14 := F0.out.c 14 _ rfl
  have x15 := F0.out.c 15 _ rfl
  have x16 := F0.out.c 16 _ rfl
  have y0 := FX.out.c 0 _ rfl
  have y1 := FX.out.c 1 _ rfl
  have y2 := FX.out.c 2 _ rfl
  have y3 := FX.out.c 3 _ rfl
  have y4 := FX.out.c 4 _ rfl
  have y5 := FX.out.c 5 _ rfl
  have y6 := FX.out.c 6 _ rfl
  have y7 := FX.out.c 7 _ rfl
  have y8 := FX.out.c 8 _ rfl
  have y9 := FX.out.c 9 _ rfl
  have y10 := FX.out.c 10 _ rfl
  have y11 := FX.out.c 11 _ rfl
  have y12 := FX.out.c 12 _ rfl
  have y13 := FX.out.c 13 _ rfl
  have y14 := FX.out.c 14 _ rfl
  have y15 := FX.out.c 15 _ rfl
  have y16 := FX.out.c 16 _ rfl
  refine wp_region_held_drew (S := (fun w'' => w''.cell? ⟨w.heap.size, 0, none⟩ = some (.int .i64 h.fl) ∧ w''.cell? ⟨w.heap.size, 1, none⟩ = some (.int .i64 h.gp) ∧ w''.cell? ⟨w.heap.size, 2, none⟩ = some (.int .i64 h.ln) ∧ w''.cell? ⟨w.heap.size, 3, none⟩ = some (.int .i64 h.rf) ∧ w''.cell? ⟨w.heap.size, 4, none⟩ = some (.int .i64 h.sp) ∧ w''.cell? ⟨w.heap.size, 5, none⟩ = some (.int .i64 h.pu) ∧ w''.cell? ⟨w.heap.size, 6, none⟩ = some (.int .i64 h.br) ∧ w''.cell? ⟨w.heap.size, 7, none⟩ = some (.int .i64 h.dr) ∧ w''.cell? ⟨w.heap.size, 8, none⟩ = some (.int .i64 h.lv) ∧ w''.cell? ⟨w.heap.size, 9, none⟩ = some (.int .i64 h.dO) ∧ w''.cell? ⟨w.heap.size, 10, none⟩ = some (.int .i64 h.ld) ∧ w''.cell? ⟨w.heap.size, 11, none⟩ = some (.int .i64 h.qu) ∧ w''.cell? ⟨w.heap.size, 12, none⟩ = some (.slice d0 ds.length e0) ∧ w''.cell? ⟨w.heap.size, 13, none⟩ = some (.int .i64 nx) ∧ w''.cell? ⟨w.heap.size, 14, none⟩ = some (.slice p0 ps.length n0) ∧ w''.cell? ⟨w.heap.size, 15, none⟩ = some (.int .i64 tk) ∧ w''.cell? ⟨w.heap.size, 16, none⟩ = some (.bool rc) ∧ w''.cell? ⟨bx, 0, none⟩ = some (.int .i64 h.fl) ∧ w''.cell? ⟨bx, 1, none⟩ = some (.int .i64 h.gp) ∧ w''.cell? ⟨bx, 2, none⟩ = some (.int .i64 h.ln) ∧ w''.cell? ⟨bx, 3, none⟩ = some (.int .i64 h.rf) ∧ w''.cell? ⟨bx, 4, none⟩ = some (.int .i64 h.sp) ∧ w''.cell? ⟨bx, 5, none⟩ = some (.int .i64 h.pu) ∧ w''.cell? ⟨bx, 6, none⟩ = some (.int .i64 h.br) ∧ w''.cell? ⟨bx, 7, none⟩ = some (.int .i64 h.dr) ∧ w''.cell? ⟨bx, 8, none⟩ = some (.int .i64 h.lv) ∧ w''.cell? ⟨bx, 9, none⟩ = some (.int .i64 h.dO) ∧ w''.cell? ⟨bx, 10, none⟩ = some (.int .i64 h.ld) ∧ w''.cell? ⟨bx, 11, none⟩ = some (.int .i64 h.qu) ∧ w''.cell? ⟨bx, 12, none⟩ = some (.slice (some ⟨gd2, 0, none⟩) ds.length ds.length) ∧ w''.cell? ⟨bx, 13, none⟩ = some (.int .i64 nx) ∧ w''.cell? ⟨bx, 14, none⟩ = some (.slice (some ⟨gp2, 0, none⟩) ps.length ps.length) ∧ w''.cell? ⟨bx, 15, none⟩ = some (.int .i64 tk) ∧ w''.cell? ⟨bx, 16, none⟩ = some (.bool rc))) (by kernel_rfl) (by (try dsimp only); first | exact ⟨x0, x1, x2, x3, x4, x5, x6, x7, x8, x9, x10, x11, x12, x13, x14, x15, x16, y0, y1, y2, y3, y4, y5, y6, y7, y8, y9, y10, y11, y12, y13, y14, y15, y16⟩ | go_keep) (fun hHeld => ?_)
  obtain ⟨v_1, hw1⟩ : ∃ v_1, v_1 = w6.drew := ⟨_, rfl⟩
  have F0 : Hid (Blk v_1 w.heap.size (gvs h (.slice d0 ds.length e0) nx (.slice p0 ps.length n0) tk rc)) := by rw [hw1]; exact F0.out
  have O2 : Hid (GO v_1 w.heap.size gd2 gp2 ds ps) := by rw [hw1]; exact O2.out
  have FX : Hid (Blk v_1 bx (gvs h (.slice (some ⟨gd2, 0, none⟩) ds.length ds.length) nx (.slice (some ⟨gp2, 0, none⟩) ps.length ps.length) tk rc)) := by rw [hw1]; exact FX.out
  have FB : Hid (Below w.heap.size w v_1) := by rw [hw1]; exact FB.out
  rw [← hw1] at hHeld ⊢
  clear hw1
  have x0 := F0.out.c 0 _ rfl
  have x1 := F0.out.c 1 _ rfl
  have x2 := F0.out.c 2 _ rfl
  have x3 := F0.out.c 3 _ rfl
  have x4 := F0.out.c 4 _ rfl
  have x5 := F0.out.c 5 _ rfl
  have x6 := F0.out.c 6 _ rfl
  have x7 := F0.out.c 7 _ rfl
  have x8 := F0.out.c 8 _ rfl
  have x9 := F0.out.c 9 _ rfl
  have x10 := F0.out.c 10 _ rfl
  have x11 := F0.out.c 11 _ rfl
  have x12 := F0.out.c 12 _ rfl
  have x13 := F0.out.c 13 _ rfl
  have x14 := F0.out.c 14 _ rfl
  have x15 := F0.out.c 15 _ rfl
  have x16 := F0.out.c 16 _ rfl
  have y0 := FX.out.c 0 _ rfl
  have y1 := FX.out.c 1 _ rfl
  have y2 := FX.out.c 2 _ rfl
  have y3 := FX.out.c 3 _ rfl
  have y4 := FX.out.c 4 _ rfl
  have y5 := FX.out.c 5 _ rfl
  have y6 := FX.out.c 6 _ rfl
  have y7 := FX.out.c 7 _ rfl
  have y8 := FX.out.c 8 _ rfl
  have y9 := FX.out.c 9 _ rfl
  have y10 := FX.out.c 10 _ rfl
  have y11 := FX.out.c 11 _ rfl
  have y12 := FX.out.c 12 _ rfl
  have y13 := FX.out.c 13 _ rfl
  have y14 := FX.out.c 14 _ rfl
  have y15 := FX.out.c 15 _ rfl
  have y16 := FX.out.c 16 _ rfl
  refine tkz 0 rfl ?_
  refine tkz 1 rfl ?_
  refine wpAnyH_ready (rs := [2]) (by kernel_rfl) (by simp) ?_
  refine (AllReadyH.cons rfl (fun K hK => ?_) AllReadyH.nil)
  go_simp
  refine (toGroup_any h ds d0 e0 nx ps p0 n0 tk rc hld hlp _ ((HD.out.below FB.out (Nat.le_refl _)).mono FB.out.size) ((HP.out.below FB.out (Nat.le_refl _)).mono FB.out.size)).mono ?_
  rintro e v_2 ⟨gd3, gp3, rfl, ho, hb⟩
  have O3 : Hid (GO v_2 w.heap.size gd3 gp3 ds ps) := ho.base FB.out.size
  have F0 : Hid (Blk v_2 w.heap.size (gvs h (.slice d0 ds.length e0) nx (.slice p0 ps.length n0) tk rc)) := F0.out.below hb F0.out.lt
  have O2 : Hid (GO v_2 w.heap.size gd2 gp2 ds ps) := O2.out.below hb O2.out.lt
  have FX : Hid (Blk v_2 bx (gvs h (.slice (some ⟨gd2, 0, none⟩) ds.length ds.length) nx (.slice (some ⟨gp2, 0, none⟩) ps.length ps.length) tk rc)) := FX.out.below hb FX.out.lt
  have FB : Hid (Below w.heap.size w v_2) := FB.out.trans (hb.mono FB.out.size)
  clear hb
  have x0 := F0.out.c 0 _ rfl
  have x1 := F0.out.c 1 _ rfl
  have x2 := F0.out.c 2 _ rfl
  have x3 := F0.out.c 3 _ rfl
  have x4 := F0.out.c 4 _ rfl
  have x5 := F0.out.c 5 _ rfl
  have x6 := F0.out.c 6 _ rfl
  have x7 := F0.out.c 7 _ rfl
  have x8 := F0.out.c 8 _ rfl
  have x9 := F0.out.c 9 _ rfl
  have x10 := F0.out.c 10 _ rfl
  have x11 := F0.out.c 11 _ rfl
  have x12 := F0.out.c 12 _ rfl
  have x13 := F0.out.c 13 _ rfl
  have x14 := F0.out.c 14 _ rfl
  have x15 := F0.out.c 15 _ rfl
  have x16 := F0.out.c 16 _ rfl
  have y0 := FX.out.c 0 _ rfl
  have y1 := FX.out.c 1 _ rfl
  have y2 := FX.out.c 2 _ rfl
  have y3 := FX.out.c 3 _ rfl
  have y4 := FX.out.c 4 _ rfl
  have y5 := FX.out.c 5 _ rfl
  have y6 := FX.out.c 6 _ rfl
  have y7 := FX.out.c 7 _ rfl
  have y8 := FX.out.c 8 _ rfl
  have y9 := FX.out.c 9 _ rfl
  have y10 := FX.out.c 10 _ rfl
  have y11 := FX.out.c 11 _ rfl
  have y12 := FX.out.c 12 _ rfl
  have y13 := FX.out.c 13 _ rfl
  have y14 := FX.out.c 14 _ rfl
  have y15 := FX.out.c 15 _ rfl
  have y16 := FX.out.c 16 _ rfl
  clear ho
  try dsimp only
  refine hK.out _ _ (by (try dsimp only); first | exact ⟨x0, x1, x2, x3, x4, x5, x6, x7, x8, x9, x10, x11, x12, x13, x14, x15, x16, y0, y1, y2, y3, y4, y5, y6, y7, y8, y9, y10, y11, y12, y13, y14, y15, y16⟩ | go_keep) (fun hHeld => ?_)
  clear hK K
  try simp only [Act.put, List.getElem_toArray, List.getElem_cons_succ, List.getElem_cons_zero, List.setIfInBounds_toArray, List.set_cons_zero, List.set_cons_succ]
  refine wpAnyH_ready (rs := [3]) (by kernel_rfl) (by simp) ?_
  refine (AllReadyH.cons rfl (fun K hK => ?_) AllReadyH.nil)
  go_simp
  refine (eqGroup_same h ds (some ⟨gd2, 0, none⟩) (some ⟨gd3, 0, none⟩) ds.length ds.length nx ps (some ⟨gp2, 0, none⟩) (some ⟨gp3, 0, none⟩) ps.length ps.length tk rc hld hlp _ O2.out.din O3.out.din O2.out.pin O3.out.pin).mono ?_
  rintro e v_3 ⟨rfl, hb⟩
  have F0 : Hid (Blk v_3 w.heap.size (gvs h (.slice d0 ds.length e0) nx (.slice p0 ps.length n0) tk rc)) := F0.out.below hb F0.out.lt
  have O2 : Hid (GO v_3 w.heap.size gd2 gp2 ds ps) := O2.out.below hb O2.out.lt
  have FX : Hid (Blk v_3 bx (gvs h (.slice (some ⟨gd2, 0, none⟩) ds.length ds.length) nx (.slice (some ⟨gp2, 0, none⟩) ps.length ps.length) tk rc)) := FX.out.below hb FX.out.lt
  have FB : Hid (Below w.heap.size w v_3) := FB.out.trans (hb.mono FB.out.size)
  have O3 : Hid (GO v_3 w.heap.size gd3 gp3 ds ps) := O3.out.below hb O3.out.lt
  clear hb
  have x0 := F0.out.c 0 _ rfl
  have x1 := F0.out.c 1 _ rfl
  have x2 := F0.out.c 2 _ rfl
  have x3 := F0.out.c 3 _ rfl
  have x4 := F0.out.c 4 _ rfl
  have x5 := F0.out.c 5 _ rfl
  have x6 := F0.out.c 6 _ rfl
  have x7 := F0.out.c 7 _ rfl
  have x8 := F0.out.c 8 _ rfl
  have x9 := F0.out.c 9 _ rfl
  have x10 := F0.out.c 10 _ rfl
  have x11 := F0.out.c 11 _ rfl
  have x12 := F0.out.c 12 _ rfl
  have x13 := F0.out.c 13 _ rfl
  have x14 := F0.out.c 14 _ rfl
  have x15 := F0.out.c 15 _ rfl
  have x16 := F0.out.c 16 _ rfl
  have y0 := FX.out.c 0 _ rfl
  have y1 := FX.out.c 1 _ rfl
  have y2 := FX.out.c 2 _ rfl
  have y3 := FX.out.c 3 _ rfl
  have y4 := FX.out.c 4 _ rfl
  have y5 := FX.out.c 5 _ rfl
  have y6 := FX.out.c 6 _ rfl
  have y7 := FX.out.c 7 _ rfl
  have y8 := FX.out.c 8 _ rfl
  have y9 := FX.out.c 9 _ rfl
  have y10 := FX.out.c 10 _ rfl
  have y11 := FX.out.c 11 _ rfl
  have y12 := FX.out.c 12 _ rfl
  have y13 := FX.out.c 13 _ rfl
  have y14 := FX.out.c 14 _ rfl
  have y15 := FX.out.c 15 _ rfl
  have y16 := FX.out.c 16 _ rfl
  try dsimp only
  refine hK.out _ _ (by (try dsimp only); first | exact ⟨x0, x1, x2, x3, x4, x5, x6, x7, x8, x9, x10, x11, x12, x13, x14, x15, x16, y0, y1, y2, y3, y4, y5, y6, y7, y8, y9, y10, y11, y12, y13, y14, y15, y16⟩ | go_keep) (fun hHeld => ?_)
  clear hK K
  try simp only [Act.put, List.getElem_toArray, List.getElem_cons_succ, List.getElem_cons_zero, List.setIfInBounds_toArray, List.set_cons_zero, List.set_cons_succ]
  refine tkz 4 rfl ?_
  refine wpAnyH_done (by kernel_rfl) ?_ _
  go_wp2_with fail
  go_ret
  exact ⟨by simp, FB.out⟩

set_option maxRecDepth 100000 in
theorem lifted (os : Os) (started : os.Started) (H : Type) (enc : TypeId × Value → H) :
    ReturnsInHanded {} Tryz.checked os 3 .any (Rows.fnExactLeadOfSpec.pre6 enc Tryz.prog Tryz.f3 Rows.fnExactLeadOfRow.domain false) (Rows.fnExactLeadOfSpec.post enc Tryz.prog Tryz.f3 false true false false) := by
  refine returnsInHanded_of_change (C := Tryz.checked) own started (by kernel_rfl) Tryz.func3
    (ChangeSpec.witness6 (enc := enc) (C := Tryz.checked) false ⟨#[], #[.agg #[.int .i64 0, .int .i64 0, .int .i64 0, .int .i64 0, .int .i64 0, .int .i64 0, .int .i64 0, .int .i64 0, .int .i64 0, .int .i64 0, .int .i64 0, .int .i64 0, .slice none 0 0, .int .i64 0, .slice none 0 0, .int .i64 0, .bool false], .int .i64 0], []⟩ 8 (by kernel_rfl) (by kernel_rfl) (by kernel_rfl) (by kernel_rfl)) ?_
  intro W base args ds gs before hval0 hW hcnd _
  have hval : ∀ (j : Nat) t v, Tryz.f3.params[j]? = some t → args[j]? = some v → Value.okWide Tryz.prog W .any base t v := hval0
  have hW' := hW
  obtain ⟨p, q, hA0, hV, rfl, hfz, hnd⟩ := hW
  have hA : DataW.TrodAll enc Tryz.prog W 0 (fun _ => true) true Tryz.f3.params.toList args.toList ds p := hA0
  rw [Tryz.params3] at hA hval
  obtain ⟨v0, vs0, d0, ds0, p0, q0, hargs, rfl, rfl, h0, r0⟩ := trodAll_cons hA
  obtain ⟨v1, vs1, d1, ds1, p1, q1, rfl, rfl, rfl, h1, r1⟩ := trodAll_cons r0
  obtain ⟨rfl, rfl, rfl⟩ := trodAll_nil r1
  obtain rfl : args = #[v0, v1] := by cases args; simp_all
  obtain ⟨rfl, rfl⟩ := trodVars_none hV
  have k0 := h0
  have lt0 : ∀ x ∈ p0, x.block < W.heap.size := by obtain ⟨m, hm⟩ := k0; exact DataW.trod_lt m _ _ _ hm
  obtain ⟨x0, da0, dc0, pa0, pc0, rfl, wl0, ln0, din0, pin0⟩ := open_grp (th := 23) (tds := 24) (tl := 27) (tps := 25) (tp := 109) (⟨Tryz.underlying91, Tryz.underlying86, Tryz.underlying84, Tryz.underlying89, Tryz.underlying87, Tryz.underlying2, Tryz.underlying4, by kernel_rfl, by kernel_rfl, by kernel_rfl, by kernel_rfl, by kernel_rfl, by kernel_rfl, by kernel_rfl, by kernel_rfl, by kernel_rfl, ⟨rfl, rfl, rfl⟩, ⟨rfl, rfl, rfl⟩, ⟨rfl, rfl, rfl⟩, ⟨rfl, rfl, rfl⟩, ⟨rfl, rfl, rfl⟩, ⟨rfl, rfl, rfl⟩, ⟨rfl, rfl, rfl⟩, ⟨rfl, rfl, rfl⟩, ⟨rfl, rfl, rfl⟩⟩ : DeckT Tryz.prog 91 86 84 89 87 2 4 _ _ _ _ _ _ _ _ _ _ _ _ _ _) Tryz.underlying29 Tryz.underlying23 Tryz.underlying24 Tryz.underlying27 Tryz.underlying25 Tryz.underlying109 (by kernel_rfl) (by kernel_rfl) (by kernel_rfl) (by kernel_rfl) (by kernel_rfl) (by kernel_rfl) (by kernel_rfl) (by kernel_rfl) ⟨rfl, rfl, rfl⟩ ⟨rfl, rfl, rfl⟩ ⟨rfl, rfl, rfl⟩ ⟨rfl, rfl, rfl⟩ ⟨rfl, rfl, rfl⟩ ⟨rfl, rfl, rfl⟩ ⟨rfl, rfl, rfl⟩ (hval 0 29 v0 rfl rfl) h0
  have k1 := h1
  have lt1 : ∀ x ∈ p1, x.block < W.heap.size := by obtain ⟨m, hm⟩ := k1; exact DataW.trod_lt m _ _ _ hm
  obtain ⟨a1, rfl, _, _, w1⟩ := open_int Tryz.underlying2 (hval 1 2 v1 rfl rfl) h1
  clear hA0 hval0
  refine (walk x0 a1 da0 dc0 pa0 pc0 wl0 ln0 w1 W din0 pin0).mono fun e W' ⟨he, bel⟩ => ?_
  subst he
  exact ⟨_, rfl, _, _, _, [], _, [], hW', trodAll_mk1 (shut_bool Tryz.underlying4 _), (trodAll_cons_mk (Below.trod laidOut (by kernel_rfl) (of_decide_eq_true (by kernel_rfl)) k0 bel lt0) (trodAll_cons_mk (Below.trod laidOut (by kernel_rfl) (of_decide_eq_true (by kernel_rfl)) k1 bel lt1) trodAll_mk0)), rfl, bel.frame _, fun h => by cases h⟩

theorem over : Rows.fnExactLeadOfRow.holds Tryz.pinned (OpenSpec.ofChange Rows.fnExactLeadOfSpec) :=
  OpenClaim.holds_of_wide 3 Tryz.f3 rfl rfl rfl rfl rfl rfl rfl ⟨rfl, rfl, rfl, rfl, rfl⟩ rfl rfl rfl rfl rfl (by kernel_rfl) Tryz.func3 (by kernel_rfl)
    (of_decide_eq_true (by kernel_rfl)) (by unfold Func.isWrapper; first | (rw [if_pos (by decide +kernel)]; kernel_rfl) | (rw [if_neg (by decide +kernel)]; exact ⟨rfl, rfl⟩))
    (fun os started H enc _ => lifted os started H enc)

theorem proved : Rows.FnExactLeadOfSaid := over
end Go.Proofs.YtfmpfcpefflmjaaGreat.fnExactLeadOf

namespace Go.Proofs.YtfmpfcpefflmjaaGreat
theorem fnExactLeadOf_holds : Rows.FnExactLeadOfSaid := fnExactLeadOf.proved
#print axioms fnExactLeadOf_holds
end Go.Proofs.YtfmpfcpefflmjaaGreat
