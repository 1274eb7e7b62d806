/-
  The house, the shaft, the commands and the drifts that the bytes draw; the law FnGuards.
-/
import Derived.Test.YtclfdfcakmgffaaGuardY
import Derived.Test.YtclfdfcakmgffaaGuardP
import Derived.Test.YtclfdfcakmgffaaGuardS
import Derived.Test.YtclfdfcakmgffaaGuardE
import Derived.Test.YtclfdfcakmgffaaTickP
import Derived.Test.YtclfdfcakmgffaaAt
import Derived.Test.YtclfdfcakmgffaaFnd
namespace Go.Proofs.Ytclfdfcakmgffaa
open Go.RowKit Pl
set_option linter.unusedSimpArgs false
set_option linter.unusedVariables false

set_option maxRecDepth 20000 in
set_option maxHeartbeats 16000000 in
theorem DrawStepShaft_any (a : Option Addr) (len cap : Nat) (w : World) (hc : CodeIn w w.heap.size a len) :
    Calls Try.prog 13 #[.slice a len cap] w fun e w' => ∃ (h : Hs) (s : Sh) (x y : Cm) (dl du : Int), e = .returned (.tuple #[.agg #[.int .i64 h.fl, .int .i64 h.gp, .int .i64 h.ln, .int .i64 h.rf, .int .i64 h.sp, .int .i64 h.pu, .int .i64 h.br, .int .i64 h.dr, .int .i64 h.lv, .int .i64 h.dO, .int .i64 h.ld, .int .i64 h.qu], .agg #[.int .i64 s.lo.pos, .int .i64 s.lo.vel, .int .i64 s.lo.door, .int .i64 s.up.pos, .int .i64 s.up.vel, .int .i64 s.up.door], .agg #[.int .i64 x.push, .bool x.brk, .bool x.opn], .agg #[.int .i64 y.push, .bool y.brk, .bool y.opn], .int .i64 dl, .int .i64 du]) ∧ Below w.heap.size w w' := by
  obtain ⟨W0, hW0⟩ : ∃ W0, W0 = ((((w.alloc (.cells #[.int .i64 0, .int .i64 0, .int .i64 0, .int .i64 0, .int .i64 0, .int .i64 0, .int .i64 0, .int .i64 0, .int .i64 0, .int .i64 0, .int .i64 0, .int .i64 0] 25)).alloc (.cells #[.int .i64 0, .int .i64 0, .int .i64 0, .int .i64 0, .int .i64 0, .int .i64 0] 40)).alloc (.cells #[.int .i64 0, .bool false, .bool false] 29)).alloc (.cells #[.int .i64 0, .bool false, .bool false] 29)) := ⟨_, rfl⟩
  obtain ⟨sb, hsb⟩ : ∃ sb, sb = W0.heap.size := ⟨_, rfl⟩
  have hsz : w.heap.size + 3 < sb := by rw [hsb, hW0]; simp
  have HC : Hid (CodeIn W0 w.heap.size a len) := by rw [hW0]; exact hc.keep fun b off _ hb => (World.cell?_alloc_past _ _ _ (by simp; omega)).trans ((World.cell?_alloc_past _ _ _ (by simp; omega)).trans ((World.cell?_alloc_past _ _ _ (by simp; omega)).trans (World.cell?_alloc_past _ _ _ hb)))
  have G0 : Hid (HW W0 w.heap.size (⟨0, 0, 0, 0, 0, 0, 0, 0, 0, 0, 0, 0⟩ : Hs)) := by rw [hW0]; exact (((HW.new w (⟨0, 0, 0, 0, 0, 0, 0, 0, 0, 0, 0, 0⟩ : Hs) _).alloc _).alloc _).alloc _
  have G1 : Hid (R6 W0 (w.heap.size + 1)) := by rw [hW0]; exact ((R6.at_ _ _ _ (by simp)).alloc _).alloc _
  have G2 : Hid (XW W0 (w.heap.size + 2) (⟨0, false, false⟩ : Cm)) := by rw [hW0]; exact (XW.at_ _ (⟨0, false, false⟩ : Cm) _ _ (by simp)).alloc _
  have G3 : Hid (XW W0 (w.heap.size + 3) (⟨0, false, false⟩ : Cm)) := by rw [hW0]; exact XW.at_ _ (⟨0, false, false⟩ : Cm) _ _ (by simp)
  have FK : Hid (Keeps sb w W0) := by rw [hW0]; exact ((((Keeps.refl _ _).alloc _).alloc _).alloc _).alloc _
  have HW0 : Hid (W0 = ((((w.alloc (.cells #[.int .i64 0, .int .i64 0, .int .i64 0, .int .i64 0, .int .i64 0, .int .i64 0, .int .i64 0, .int .i64 0, .int .i64 0, .int .i64 0, .int .i64 0, .int .i64 0] 25)).alloc (.cells #[.int .i64 0, .int .i64 0, .int .i64 0, .int .i64 0, .int .i64 0, .int .i64 0] 40)).alloc (.cells #[.int .i64 0, .bool false, .bool false] 29)).alloc (.cells #[.int .i64 0, .bool false, .bool false] 29))) := hW0
  have HSB : Hid (sb = W0.heap.size) := hsb
  clear hW0 hsb hc
  go_enter Try.func13, Try.ntmps13
  go_wp2_with fail
  rw [← HW0.out]
  clear HW0
  refine (l1Source_t w.heap.size a len cap _ (by have := HSB.out; omega) HC.out).mono ?_
  rw [← HSB.out]
  rintro e w1 ⟨rfl, hs, hk⟩
  clear HSB
  have G0 : Hid (HW w1 w.heap.size (⟨0, 0, 0, 0, 0, 0, 0, 0, 0, 0, 0, 0⟩ : Hs)) := G0.out.keeps hk (by omega)
  have G1 : Hid (R6 w1 (w.heap.size + 1)) := G1.out.keeps hk (by omega)
  have G2 : Hid (XW w1 (w.heap.size + 2) (⟨0, false, false⟩ : Cm)) := G2.out.keeps hk (by omega)
  have G3 : Hid (XW w1 (w.heap.size + 3) (⟨0, false, false⟩ : Cm)) := G3.out.keeps hk (by omega)
  have FS : Hid (SrcT w1 sb w.heap.size a len cap (0)) := hs
  have FK : Hid (Keeps sb w w1) := FK.out.trans hk
  clear hs hk
  go_wp2_with fail
  refine (l5Draw_t sb _ a len cap _ _ FS.out (by omega)).mono ?_
  rintro e w2 ⟨h, s, x, y, rfl, ho, hs, hk⟩
  have f1 := ho.dr1
  have f2 := ho.dr2
  have f3 := ho.pu2
  have f4 := ho.sp2
  have e0 : IntKind.i64.wrap (h.dr + 1) = h.dr + 1 := IntWalk.i64_in _ (by omega)
  have e1 : IntKind.i64.wrap (-h.dr) = -h.dr := IntWalk.i64_in _ (by omega)
  have e2 : IntKind.i64.wrap (-h.dr - 1) = -h.dr - 1 := IntWalk.i64_in _ (by omega)
  clear ho
  have G0 : Hid (HW w2 w.heap.size (⟨0, 0, 0, 0, 0, 0, 0, 0, 0, 0, 0, 0⟩ : Hs)) := G0.out.keeps hk (by omega)
  have G1 : Hid (R6 w2 (w.heap.size + 1)) := G1.out.keeps hk (by omega)
  have G2 : Hid (XW w2 (w.heap.size + 2) (⟨0, false, false⟩ : Cm)) := G2.out.keeps hk (by omega)
  have G3 : Hid (XW w2 (w.heap.size + 3) (⟨0, false, false⟩ : Cm)) := G3.out.keeps hk (by omega)
  have FS : Hid (SrcT w2 sb w.heap.size a len cap (0 + 200)) := hs
  have FK : Hid (Keeps sb w w2) := FK.out.trans hk
  clear hs hk
  go_upto_region 3 with fail
  have lG0 := G0.out.lt
  have lG1 := G1.out.lt
  have lG2 := G2.out.lt
  have lG3 := G3.out.lt
  have lFS := FS.out.lt
  obtain ⟨w3, hw3⟩ : ∃ w3, w3 = (((w2.alloc (.cells #[.int .i64 h.fl, .int .i64 h.gp, .int .i64 h.ln, .int .i64 h.rf, .int .i64 h.sp, .int .i64 h.pu, .int .i64 h.br, .int .i64 h.dr, .int .i64 h.lv, .int .i64 h.dO, .int .i64 h.ld, .int .i64 h.qu] 25)).alloc (.cells #[.int .i64 s.lo.pos, .int .i64 s.lo.vel, .int .i64 s.lo.door, .int .i64 s.up.pos, .int .i64 s.up.vel, .int .i64 s.up.door] 40)).alloc (.cells #[.int .i64 x.push, .bool x.brk, .bool x.opn] 29)).alloc (.cells #[.int .i64 y.push, .bool y.brk, .bool y.opn] 29) := ⟨_, rfl⟩
  obtain ⟨b1, hb1⟩ : ∃ b1, b1 = w2.heap.size := ⟨_, rfl⟩
  obtain ⟨b2, hb2⟩ : ∃ b2, b2 = w2.heap.size + 1 := ⟨_, rfl⟩
  obtain ⟨b3, hb3⟩ : ∃ b3, b3 = b2 + 1 := ⟨_, rfl⟩
  obtain ⟨b4, hb4⟩ : ∃ b4, b4 = b3 + 1 := ⟨_, rfl⟩
  have l12 : b1 < b2 := by omega
  have l23 : b2 < b3 := by omega
  have l34 : b3 < b4 := by omega
  have F0 : Hid (HAt w3 b1 h) := by rw [hw3]; exact (((HAt.at_ w2 h _ _ hb1).alloc _).alloc _).alloc _
  have F1 : Hid (SW w3 b2 s) := by rw [hw3]; exact ((SW.at_ _ s _ _ (by simp; omega)).alloc _).alloc _
  have F2 : Hid (XW w3 b3 x) := by rw [hw3]; exact (XW.at_ _ x _ _ (by simp; omega)).alloc _
  have F3 : Hid (XW w3 b4 y) := by rw [hw3]; exact XW.at_ _ y _ _ (by simp; omega)
  have G0 : Hid (HW w3 w.heap.size (⟨0, 0, 0, 0, 0, 0, 0, 0, 0, 0, 0, 0⟩ : Hs)) := by rw [hw3]; exact (((G0.out.alloc _).alloc _).alloc _).alloc _
  have G1 : Hid (R6 w3 (w.heap.size + 1)) := by rw [hw3]; exact (((G1.out.alloc _).alloc _).alloc _).alloc _
  have G2 : Hid (XW w3 (w.heap.size + 2) (⟨0, false, false⟩ : Cm)) := by rw [hw3]; exact (((G2.out.alloc _).alloc _).alloc _).alloc _
  have G3 : Hid (XW w3 (w.heap.size + 3) (⟨0, false, false⟩ : Cm)) := by rw [hw3]; exact (((G3.out.alloc _).alloc _).alloc _).alloc _
  have FS : Hid (SrcT w3 sb w.heap.size a len cap (0 + 200)) := by rw [hw3]; exact (((FS.out.alloc _).alloc _).alloc _).alloc _
  have FK : Hid (Keeps sb w w3) := by rw [hw3]; exact (((FK.out.alloc _).alloc _).alloc _).alloc _
  rw [← hb1] at lG0 lG1 lG2 lG3 lFS
  rw [← hw3, ← hb2, ← hb3, ← hb4, ← hb1]
  clear hw3 hb1 hb2 hb3 hb4
  replace F0 : Hid (HAt w3.drew b1 h) := F0.out.below (Below.refl _ _).drew F0.out.lt
  replace F1 : Hid (SW w3.drew b2 s) := F1.out.below (Below.refl _ _).drew F1.out.lt
  replace F2 : Hid (XW w3.drew b3 x) := F2.out.below (Below.refl _ _).drew F2.out.lt
  replace F3 : Hid (XW w3.drew b4 y) := F3.out.below (Below.refl _ _).drew F3.out.lt
  replace G0 : Hid (HW w3.drew w.heap.size (⟨0, 0, 0, 0, 0, 0, 0, 0, 0, 0, 0, 0⟩ : Hs)) := G0.out.below (Below.refl _ _).drew G0.out.lt
  replace G1 : Hid (R6 w3.drew (w.heap.size + 1)) := G1.out.below (Below.refl _ _).drew G1.out.lt
  replace G2 : Hid (XW w3.drew (w.heap.size + 2) (⟨0, false, false⟩ : Cm)) := G2.out.below (Below.refl _ _).drew G2.out.lt
  replace G3 : Hid (XW w3.drew (w.heap.size + 3) (⟨0, false, false⟩ : Cm)) := G3.out.below (Below.refl _ _).drew G3.out.lt
  replace FS : Hid (SrcT w3.drew sb w.heap.size a len cap (0 + 200)) := FS.out.drew
  replace FK : Hid (Keeps sb w w3.drew) := FK.out.of_below (Below.refl _ _).drew
  obtain ⟨x0_0, x0_1, x0_2, x0_3, x0_4, x0_5, x0_6, x0_7, x0_8, x0_9, x0_10, x0_11⟩ := F0.out
  obtain ⟨x1_0, x1_1, x1_2, x1_3, x1_4, x1_5, y1_0, y1_1, y1_2, y1_3, y1_4, y1_5⟩ := F1.out
  obtain ⟨x2_0, x2_1, x2_2, y2_0, y2_1, y2_2⟩ := F2.out
  obtain ⟨x3_0, x3_1, x3_2, y3_0, y3_1, y3_2⟩ := F3.out
  refine wp_region_held_drew (S := (fun w'' => w''.cell? ⟨b1, 0, none⟩ = some (.int .i64 h.fl) ∧ w''.cell? ⟨b1, 1, none⟩ = some (.int .i64 h.gp) ∧ w''.cell? ⟨b1, 2, none⟩ = some (.int .i64 h.ln) ∧ w''.cell? ⟨b1, 3, none⟩ = some (.int .i64 h.rf) ∧ w''.cell? ⟨b1, 4, none⟩ = some (.int .i64 h.sp) ∧ w''.cell? ⟨b1, 5, none⟩ = some (.int .i64 h.pu) ∧ w''.cell? ⟨b1, 6, none⟩ = some (.int .i64 h.br) ∧ w''.cell? ⟨b1, 7, none⟩ = some (.int .i64 h.dr) ∧ w''.cell? ⟨b1, 8, none⟩ = some (.int .i64 h.lv) ∧ w''.cell? ⟨b1, 9, none⟩ = some (.int .i64 h.dO) ∧ w''.cell? ⟨b1, 10, none⟩ = some (.int .i64 h.ld) ∧ w''.cell? ⟨b1, 11, none⟩ = some (.int .i64 h.qu) ∧ w''.cell? ⟨b2, 0, none⟩ = some (.int .i64 s.lo.pos) ∧ w''.cell? ⟨b2, 1, none⟩ = some (.int .i64 s.lo.vel) ∧ w''.cell? ⟨b2, 2, none⟩ = some (.int .i64 s.lo.door) ∧ w''.cell? ⟨b2, 3, none⟩ = some (.int .i64 s.up.pos) ∧ w''.cell? ⟨b2, 4, none⟩ = some (.int .i64 s.up.vel) ∧ w''.cell? ⟨b2, 5, none⟩ = some (.int .i64 s.up.door) ∧ w''.cell? ⟨b3, 0, none⟩ = some (.int .i64 x.push) ∧ w''.cell? ⟨b3, 1, none⟩ = some (.bool x.brk) ∧ w''.cell? ⟨b3, 2, none⟩ = some (.bool x.opn) ∧ w''.cell? ⟨b4, 0, none⟩ = some (.int .i64 y.push) ∧ w''.cell? ⟨b4, 1, none⟩ = some (.bool y.brk) ∧ w''.cell? ⟨b4, 2, none⟩ = some (.bool y.opn))) (by kernel_rfl) (by (try dsimp only); first | exact ⟨x0_0, x0_1, x0_2, x0_3, x0_4, x0_5, x0_6, x0_7, x0_8, x0_9, x0_10, x0_11, x1_0, x1_1, x1_2, x1_3, x1_4, x1_5, x2_0, x2_1, x2_2, x3_0, x3_1, x3_2⟩ | go_keep) (fun hHeld => ?_)
  obtain ⟨v_1, hw1⟩ : ∃ v_1, v_1 = w3.drew := ⟨_, rfl⟩
  replace F0 : Hid (HAt v_1 b1 h) := by rw [hw1]; exact F0.out
  replace F1 : Hid (SW v_1 b2 s) := by rw [hw1]; exact F1.out
  replace F2 : Hid (XW v_1 b3 x) := by rw [hw1]; exact F2.out
  replace F3 : Hid (XW v_1 b4 y) := by rw [hw1]; exact F3.out
  replace G0 : Hid (HW v_1 w.heap.size (⟨0, 0, 0, 0, 0, 0, 0, 0, 0, 0, 0, 0⟩ : Hs)) := by rw [hw1]; exact G0.out
  replace G1 : Hid (R6 v_1 (w.heap.size + 1)) := by rw [hw1]; exact G1.out
  replace G2 : Hid (XW v_1 (w.heap.size + 2) (⟨0, false, false⟩ : Cm)) := by rw [hw1]; exact G2.out
  replace G3 : Hid (XW v_1 (w.heap.size + 3) (⟨0, false, false⟩ : Cm)) := by rw [hw1]; exact G3.out
  replace FS : Hid (SrcT v_1 sb w.heap.size a len cap (0 + 200)) := by rw [hw1]; exact FS.out
  replace FK : Hid (Keeps sb w v_1) := by rw [hw1]; exact FK.out
  rw [← hw1] at hHeld ⊢
  clear hw1
  clear x0_0 x0_1 x0_2 x0_3 x0_4 x0_5 x0_6 x0_7 x0_8 x0_9 x0_10 x0_11 x1_0 x1_1 x1_2 x1_3 x1_4 x1_5 x2_0 x2_1 x2_2 x3_0 x3_1 x3_2
  obtain ⟨x0_0, x0_1, x0_2, x0_3, x0_4, x0_5, x0_6, x0_7, x0_8, x0_9, x0_10, x0_11⟩ := F0.out
  obtain ⟨x1_0, x1_1, x1_2, x1_3, x1_4, x1_5, y1_0, y1_1, y1_2, y1_3, y1_4, y1_5⟩ := F1.out
  obtain ⟨x2_0, x2_1, x2_2, y2_0, y2_1, y2_2⟩ := F2.out
  obtain ⟨x3_0, x3_1, x3_2, y3_0, y3_1, y3_2⟩ := F3.out
  refine tkz 0 rfl ?_
  refine tkz 1 rfl ?_
  refine tkz 2 rfl ?_
  refine tkz 3 rfl ?_
  refine tkz 4 rfl ?_
  refine tkz 5 rfl ?_
  refine tkz 6 rfl ?_
  refine tkz 7 rfl ?_
  refine tkz 8 rfl ?_
  refine tkz 9 rfl ?_
  refine tkz 10 rfl ?_
  refine tkz 11 rfl ?_
  refine tkz 12 rfl ?_
  refine tkz 13 rfl ?_
  refine tkz 14 rfl ?_
  refine tkz 15 rfl ?_
  refine tkz 18 rfl ?_
  refine tkz 19 rfl ?_
  refine tkz 20 rfl ?_
  refine tkz 21 rfl ?_
  refine tkz 22 rfl ?_
  refine tkz 23 rfl ?_
  refine tkz 24 rfl ?_
  refine tkz 25 rfl ?_
  refine tkz 26 rfl ?_
  refine tkz 27 rfl ?_
  refine tkz 28 rfl ?_
  refine tkz 29 rfl ?_
  refine wpAnyH_ready (rs := [16, 30]) (by kernel_rfl) (by simp) ?_
  refine (AllReadyH.cons rfl (fun K hK => ?_) (AllReadyH.cons rfl (fun K hK => ?_) AllReadyH.nil))
  · go_simp
    obtain ⟨lb16, hbb⟩ : ∃ lb16, lb16 = v_1.heap.size := ⟨_, rfl⟩
    obtain ⟨v_2, hw2⟩ : ∃ v_2, v_2 = v_1.alloc (.cells #[.int .i64 0, .int .i64 h.dr, .int .i64 (-h.dr), .int .i64 h.dr, .int .i64 (-h.dr - 1)] 2) := ⟨_, rfl⟩
    have nlb16_0 := F0.out.lt
    rw [← hbb] at nlb16_0
    have nlb16_1 := F1.out.lt
    rw [← hbb] at nlb16_1
    have nlb16_2 := F2.out.lt
    rw [← hbb] at nlb16_2
    have nlb16_3 := F3.out.lt
    rw [← hbb] at nlb16_3
    have nlb16_4 := G0.out.lt
    rw [← hbb] at nlb16_4
    have nlb16_5 := G1.out.lt
    rw [← hbb] at nlb16_5
    have nlb16_6 := G2.out.lt
    rw [← hbb] at nlb16_6
    have nlb16_7 := G3.out.lt
    rw [← hbb] at nlb16_7
    have nlb16_s := FS.out.lt
    rw [← hbb] at nlb16_s
    have FL16 : Hid (LstAt v_2 lb16 [0, h.dr, (-h.dr), h.dr, (-h.dr - 1)]) := by rw [hw2]; exact LstAt.new v_1 [0, h.dr, (-h.dr), h.dr, (-h.dr - 1)] 2 lb16 hbb (by simp)
    replace F0 : Hid (HAt v_2 b1 h) := by rw [hw2]; exact F0.out.alloc _
    replace F1 : Hid (SW v_2 b2 s) := by rw [hw2]; exact F1.out.alloc _
    replace F2 : Hid (XW v_2 b3 x) := by rw [hw2]; exact F2.out.alloc _
    replace F3 : Hid (XW v_2 b4 y) := by rw [hw2]; exact F3.out.alloc _
    replace G0 : Hid (HW v_2 w.heap.size (⟨0, 0, 0, 0, 0, 0, 0, 0, 0, 0, 0, 0⟩ : Hs)) := by rw [hw2]; exact G0.out.alloc _
    replace G1 : Hid (R6 v_2 (w.heap.size + 1)) := by rw [hw2]; exact G1.out.alloc _
    replace G2 : Hid (XW v_2 (w.heap.size + 2) (⟨0, false, false⟩ : Cm)) := by rw [hw2]; exact G2.out.alloc _
    replace G3 : Hid (XW v_2 (w.heap.size + 3) (⟨0, false, false⟩ : Cm)) := by rw [hw2]; exact G3.out.alloc _
    replace FS : Hid (SrcT v_2 sb w.heap.size a len cap (0 + 200)) := by rw [hw2]; exact FS.out.alloc _
    replace FK : Hid (Keeps sb w v_2) := by rw [hw2]; exact FK.out.alloc _
    rw [← hw2, ← hbb]
    clear hbb hw2
    clear x0_0 x0_1 x0_2 x0_3 x0_4 x0_5 x0_6 x0_7 x0_8 x0_9 x0_10 x0_11 x1_0 x1_1 x1_2 x1_3 x1_4 x1_5 x2_0 x2_1 x2_2 x3_0 x3_1 x3_2
    obtain ⟨x0_0, x0_1, x0_2, x0_3, x0_4, x0_5, x0_6, x0_7, x0_8, x0_9, x0_10, x0_11⟩ := F0.out
    obtain ⟨x1_0, x1_1, x1_2, x1_3, x1_4, x1_5, y1_0, y1_1, y1_2, y1_3, y1_4, y1_5⟩ := F1.out
    obtain ⟨x2_0, x2_1, x2_2, y2_0, y2_1, y2_2⟩ := F2.out
    obtain ⟨x3_0, x3_1, x3_2, y3_0, y3_1, y3_2⟩ := F3.out
    refine hK.out _ _ (by (try dsimp only); first | exact ⟨x0_0, x0_1, x0_2, x0_3, x0_4, x0_5, x0_6, x0_7, x0_8, x0_9, x0_10, x0_11, x1_0, x1_1, x1_2, x1_3, x1_4, x1_5, x2_0, x2_1, x2_2, x3_0, x3_1, x3_2⟩ | go_keep) (fun hHeld => ?_)
    clear hK K
    try simp only [Act.put, List.getElem_toArray, List.getElem_cons_succ, List.getElem_cons_zero, List.setIfInBounds_toArray, List.set_cons_zero, List.set_cons_succ]
    refine wpAnyH_ready (rs := [17, 30]) (by kernel_rfl) (by simp) ?_
    refine (AllReadyH.cons rfl (fun K hK => ?_) (AllReadyH.cons rfl (fun K hK => ?_) AllReadyH.nil))
    · go_simp
      refine (l1Pick_t sb _ lb16 [0, h.dr, (-h.dr), h.dr, (-h.dr - 1)] (fun _ => True) (fun _ _ => trivial) a len cap _ _ FS.out (by omega) FL16.out (by simp) (by omega)).mono ?_
      rintro e v_3 ⟨dl, rfl, -, hs, hk⟩
      replace F0 : Hid (HAt v_3 b1 h) := F0.out.keeps hk (by omega)
      replace F1 : Hid (SW v_3 b2 s) := F1.out.keeps hk (by omega)
      replace F2 : Hid (XW v_3 b3 x) := F2.out.keeps hk (by omega)
      replace F3 : Hid (XW v_3 b4 y) := F3.out.keeps hk (by omega)
      replace G0 : Hid (HW v_3 w.heap.size (⟨0, 0, 0, 0, 0, 0, 0, 0, 0, 0, 0, 0⟩ : Hs)) := G0.out.keeps hk (by omega)
      replace G1 : Hid (R6 v_3 (w.heap.size + 1)) := G1.out.keeps hk (by omega)
      replace G2 : Hid (XW v_3 (w.heap.size + 2) (⟨0, false, false⟩ : Cm)) := G2.out.keeps hk (by omega)
      replace G3 : Hid (XW v_3 (w.heap.size + 3) (⟨0, false, false⟩ : Cm)) := G3.out.keeps hk (by omega)
      replace FS : Hid (SrcT v_3 sb w.heap.size a len cap ((0 + 200) + 1)) := hs
      replace FK : Hid (Keeps sb w v_3) := FK.out.trans hk
      replace FL16 : Hid (LstAt v_3 lb16 [0, h.dr, (-h.dr), h.dr, (-h.dr - 1)]) := FL16.out.keeps hk (by omega)
      clear hs hk
      clear x0_0 x0_1 x0_2 x0_3 x0_4 x0_5 x0_6 x0_7 x0_8 x0_9 x0_10 x0_11 x1_0 x1_1 x1_2 x1_3 x1_4 x1_5 x2_0 x2_1 x2_2 x3_0 x3_1 x3_2
      obtain ⟨x0_0, x0_1, x0_2, x0_3, x0_4, x0_5, x0_6, x0_7, x0_8, x0_9, x0_10, x0_11⟩ := F0.out
      obtain ⟨x1_0, x1_1, x1_2, x1_3, x1_4, x1_5, y1_0, y1_1, y1_2, y1_3, y1_4, y1_5⟩ := F1.out
      obtain ⟨x2_0, x2_1, x2_2, y2_0, y2_1, y2_2⟩ := F2.out
      obtain ⟨x3_0, x3_1, x3_2, y3_0, y3_1, y3_2⟩ := F3.out
      try dsimp only
      refine hK.out _ _ (by (try dsimp only); first | exact ⟨x0_0, x0_1, x0_2, x0_3, x0_4, x0_5, x0_6, x0_7, x0_8, x0_9, x0_10, x0_11, x1_0, x1_1, x1_2, x1_3, x1_4, x1_5, x2_0, x2_1, x2_2, x3_0, x3_1, x3_2⟩ | go_keep) (fun hHeld => ?_)
      clear hK K
      try simp only [Act.put, List.getElem_toArray, List.getElem_cons_succ, List.getElem_cons_zero, List.setIfInBounds_toArray, List.set_cons_zero, List.set_cons_succ]
      refine wpAnyH_ready (rs := [30]) (by kernel_rfl) (by simp) ?_
      refine (AllReadyH.cons rfl (fun K hK => ?_) AllReadyH.nil)
      go_simp
      obtain ⟨lb30, hbb⟩ : ∃ lb30, lb30 = v_3.heap.size := ⟨_, rfl⟩
      obtain ⟨v_4, hw2⟩ : ∃ v_4, v_4 = v_3.alloc (.cells #[.int .i64 0, .int .i64 h.dr, .int .i64 (-h.dr), .int .i64 (-h.dr), .int .i64 (h.dr + 1)] 2) := ⟨_, rfl⟩
      have nlb30_0 := F0.out.lt
      rw [← hbb] at nlb30_0
      have nlb30_1 := F1.out.lt
      rw [← hbb] at nlb30_1
      have nlb30_2 := F2.out.lt
      rw [← hbb] at nlb30_2
      have nlb30_3 := F3.out.lt
      rw [← hbb] at nlb30_3
      have nlb30_4 := G0.out.lt
      rw [← hbb] at nlb30_4
      have nlb30_5 := G1.out.lt
      rw [← hbb] at nlb30_5
      have nlb30_6 := G2.out.lt
      rw [← hbb] at nlb30_6
      have nlb30_7 := G3.out.lt
      rw [← hbb] at nlb30_7
      have nlb30_s := FS.out.lt
      rw [← hbb] at nlb30_s
      have nlb30_10 := FL16.out.lt
      rw [← hbb] at nlb30_10
      have FL30 : Hid (LstAt v_4 lb30 [0, h.dr, (-h.dr), (-h.dr), (h.dr + 1)]) := by rw [hw2]; exact LstAt.new v_3 [0, h.dr, (-h.dr), (-h.dr), (h.dr + 1)] 2 lb30 hbb (by simp)
      replace F0 : Hid (HAt v_4 b1 h) := by rw [hw2]; exact F0.out.alloc _
      replace F1 : Hid (SW v_4 b2 s) := by rw [hw2]; exact F1.out.alloc _
      replace F2 : Hid (XW v_4 b3 x) := by rw [hw2]; exact F2.out.alloc _
      replace F3 : Hid (XW v_4 b4 y) := by rw [hw2]; exact F3.out.alloc _
      replace G0 : Hid (HW v_4 w.heap.size (⟨0, 0, 0, 0, 0, 0, 0, 0, 0, 0, 0, 0⟩ : Hs)) := by rw [hw2]; exact G0.out.alloc _
      replace G1 : Hid (R6 v_4 (w.heap.size + 1)) := by rw [hw2]; exact G1.out.alloc _
      replace G2 : Hid (XW v_4 (w.heap.size + 2) (⟨0, false, false⟩ : Cm)) := by rw [hw2]; exact G2.out.alloc _
      replace G3 : Hid (XW v_4 (w.heap.size + 3) (⟨0, false, false⟩ : Cm)) := by rw [hw2]; exact G3.out.alloc _
      replace FS : Hid (SrcT v_4 sb w.heap.size a len cap ((0 + 200) + 1)) := by rw [hw2]; exact FS.out.alloc _
      replace FK : Hid (Keeps sb w v_4) := by rw [hw2]; exact FK.out.alloc _
      replace FL16 : Hid (LstAt v_4 lb16 [0, h.dr, (-h.dr), h.dr, (-h.dr - 1)]) := by rw [hw2]; exact FL16.out.alloc _
      rw [← hw2, ← hbb]
      clear hbb hw2
      clear x0_0 x0_1 x0_2 x0_3 x0_4 x0_5 x0_6 x0_7 x0_8 x0_9 x0_10 x0_11 x1_0 x1_1 x1_2 x1_3 x1_4 x1_5 x2_0 x2_1 x2_2 x3_0 x3_1 x3_2
      obtain ⟨x0_0, x0_1, x0_2, x0_3, x0_4, x0_5, x0_6, x0_7, x0_8, x0_9, x0_10, x0_11⟩ := F0.out
      obtain ⟨x1_0, x1_1, x1_2, x1_3, x1_4, x1_5, y1_0, y1_1, y1_2, y1_3, y1_4, y1_5⟩ := F1.out
      obtain ⟨x2_0, x2_1, x2_2, y2_0, y2_1, y2_2⟩ := F2.out
      obtain ⟨x3_0, x3_1, x3_2, y3_0, y3_1, y3_2⟩ := F3.out
      refine hK.out _ _ (by (try dsimp only); first | exact ⟨x0_0, x0_1, x0_2, x0_3, x0_4, x0_5, x0_6, x0_7, x0_8, x0_9, x0_10, x0_11, x1_0, x1_1, x1_2, x1_3, x1_4, x1_5, x2_0, x2_1, x2_2, x3_0, x3_1, x3_2⟩ | go_keep) (fun hHeld => ?_)
      clear hK K
      try simp only [Act.put, List.getElem_toArray, List.getElem_cons_succ, List.getElem_cons_zero, List.setIfInBounds_toArray, List.set_cons_zero, List.set_cons_succ]
      refine wpAnyH_ready (rs := [31]) (by kernel_rfl) (by simp) ?_
      refine (AllReadyH.cons rfl (fun K hK => ?_) AllReadyH.nil)
      go_simp
      refine (l1Pick_t sb _ lb30 [0, h.dr, (-h.dr), (-h.dr), (h.dr + 1)] (fun _ => True) (fun _ _ => trivial) a len cap _ _ FS.out (by omega) FL30.out (by simp) (by omega)).mono ?_
      rintro e v_5 ⟨du, rfl, -, hs, hk⟩
      replace F0 : Hid (HAt v_5 b1 h) := F0.out.keeps hk (by omega)
      replace F1 : Hid (SW v_5 b2 s) := F1.out.keeps hk (by omega)
      replace F2 : Hid (XW v_5 b3 x) := F2.out.keeps hk (by omega)
      replace F3 : Hid (XW v_5 b4 y) := F3.out.keeps hk (by omega)
      replace G0 : Hid (HW v_5 w.heap.size (⟨0, 0, 0, 0, 0, 0, 0, 0, 0, 0, 0, 0⟩ : Hs)) := G0.out.keeps hk (by omega)
      replace G1 : Hid (R6 v_5 (w.heap.size + 1)) := G1.out.keeps hk (by omega)
      replace G2 : Hid (XW v_5 (w.heap.size + 2) (⟨0, false, false⟩ : Cm)) := G2.out.keeps hk (by omega)
      replace G3 : Hid (XW v_5 (w.heap.size + 3) (⟨0, false, false⟩ : Cm)) := G3.out.keeps hk (by omega)
      replace FS : Hid (SrcT v_5 sb w.heap.size a len cap (((0 + 200) + 1) + 1)) := hs
      replace FK : Hid (Keeps sb w v_5) := FK.out.trans hk
      replace FL16 : Hid (LstAt v_5 lb16 [0, h.dr, (-h.dr), h.dr, (-h.dr - 1)]) := FL16.out.keeps hk (by omega)
      replace FL30 : Hid (LstAt v_5 lb30 [0, h.dr, (-h.dr), (-h.dr), (h.dr + 1)]) := FL30.out.keeps hk (by omega)
      clear hs hk
      clear x0_0 x0_1 x0_2 x0_3 x0_4 x0_5 x0_6 x0_7 x0_8 x0_9 x0_10 x0_11 x1_0 x1_1 x1_2 x1_3 x1_4 x1_5 x2_0 x2_1 x2_2 x3_0 x3_1 x3_2
      obtain ⟨x0_0, x0_1, x0_2, x0_3, x0_4, x0_5, x0_6, x0_7, x0_8, x0_9, x0_10, x0_11⟩ := F0.out
      obtain ⟨x1_0, x1_1, x1_2, x1_3, x1_4, x1_5, y1_0, y1_1, y1_2, y1_3, y1_4, y1_5⟩ := F1.out
      obtain ⟨x2_0, x2_1, x2_2, y2_0, y2_1, y2_2⟩ := F2.out
      obtain ⟨x3_0, x3_1, x3_2, y3_0, y3_1, y3_2⟩ := F3.out
      try dsimp only
      refine hK.out _ _ (by (try dsimp only); first | exact ⟨x0_0, x0_1, x0_2, x0_3, x0_4, x0_5, x0_6, x0_7, x0_8, x0_9, x0_10, x0_11, x1_0, x1_1, x1_2, x1_3, x1_4, x1_5, x2_0, x2_1, x2_2, x3_0, x3_1, x3_2⟩ | go_keep) (fun hHeld => ?_)
      clear hK K
      try simp only [Act.put, List.getElem_toArray, List.getElem_cons_succ, List.getElem_cons_zero, List.setIfInBounds_toArray, List.set_cons_zero, List.set_cons_succ]
      refine wpAnyH_ready (rs := [32]) (by kernel_rfl) (by simp) ?_
      refine (AllReadyH.cons rfl (fun K hK => ?_) AllReadyH.nil)
      obtain ⟨d0, d1, d2, d3, d4, d5, d6, d7, d8, d9, d10, d11, e0, e1, e2, e3, e4, e5, e6, e7, e8, e9, e10, e11⟩ := G0.out
      try dsimp only at d0 d1 d2 d3 d4 d5 d6 d7 d8 d9 d10 d11
      go_simp
      obtain ⟨v_6, hw2⟩ : ∃ v_6, v_6 = putH v_5 w.heap.size h := ⟨_, rfl⟩
      change K _ (putH v_5 w.heap.size h)
      rw [← hw2]
      clear d0 d1 d2 d3 d4 d5 d6 d7 d8 d9 d10 d11 e0 e1 e2 e3 e4 e5 e6 e7 e8 e9 e10 e11
      replace F0 : Hid (HAt v_6 b1 h) := by rw [hw2]; exact F0.out.putH_o (by omega) h
      replace F1 : Hid (SW v_6 b2 s) := by rw [hw2]; exact F1.out.putH_o (by omega) h
      replace F2 : Hid (XW v_6 b3 x) := by rw [hw2]; exact F2.out.putH_o (by omega) h
      replace F3 : Hid (XW v_6 b4 y) := by rw [hw2]; exact F3.out.putH_o (by omega) h
      replace G0 : Hid (HW v_6 w.heap.size h) := by rw [hw2]; exact G0.out.put h
      replace G1 : Hid (R6 v_6 (w.heap.size + 1)) := by rw [hw2]; exact G1.out.putH_o (by omega) h
      replace G2 : Hid (XW v_6 (w.heap.size + 2) (⟨0, false, false⟩ : Cm)) := by rw [hw2]; exact G2.out.putH_o (by omega) h
      replace G3 : Hid (XW v_6 (w.heap.size + 3) (⟨0, false, false⟩ : Cm)) := by rw [hw2]; exact G3.out.putH_o (by omega) h
      replace FK : Hid (Keeps sb w v_6) := by rw [hw2]; exact FK.out.putH_o (Nat.le_refl _) h
      clear hw2
      clear x0_0 x0_1 x0_2 x0_3 x0_4 x0_5 x0_6 x0_7 x0_8 x0_9 x0_10 x0_11 x1_0 x1_1 x1_2 x1_3 x1_4 x1_5 x2_0 x2_1 x2_2 x3_0 x3_1 x3_2
      obtain ⟨x0_0, x0_1, x0_2, x0_3, x0_4, x0_5, x0_6, x0_7, x0_8, x0_9, x0_10, x0_11⟩ := F0.out
      obtain ⟨x1_0, x1_1, x1_2, x1_3, x1_4, x1_5, y1_0, y1_1, y1_2, y1_3, y1_4, y1_5⟩ := F1.out
      obtain ⟨x2_0, x2_1, x2_2, y2_0, y2_1, y2_2⟩ := F2.out
      obtain ⟨x3_0, x3_1, x3_2, y3_0, y3_1, y3_2⟩ := F3.out
      refine hK.out _ _ (by (try dsimp only); first | exact ⟨x0_0, x0_1, x0_2, x0_3, x0_4, x0_5, x0_6, x0_7, x0_8, x0_9, x0_10, x0_11, x1_0, x1_1, x1_2, x1_3, x1_4, x1_5, x2_0, x2_1, x2_2, x3_0, x3_1, x3_2⟩ | go_keep) (fun hHeld => ?_)
      clear hK K
      try simp only [Act.put, List.getElem_toArray, List.getElem_cons_succ, List.getElem_cons_zero, List.setIfInBounds_toArray, List.set_cons_zero, List.set_cons_succ]
      refine wpAnyH_ready (rs := [33]) (by kernel_rfl) (by simp) ?_
      refine (AllReadyH.cons rfl (fun K hK => ?_) AllReadyH.nil)
      obtain ⟨r0, r1, r2, r3, r4, r5, s0, s1, s2, s3, s4, s5⟩ := G1.out
      go_simp
      obtain ⟨v_7, hw2⟩ : ∃ v_7, v_7 = put6 v_6 (w.heap.size + 1) s := ⟨_, rfl⟩
      change K _ (put6 v_6 (w.heap.size + 1) s)
      rw [← hw2]
      clear r0 r1 r2 r3 r4 r5 s0 s1 s2 s3 s4 s5
      replace F0 : Hid (HAt v_7 b1 h) := by rw [hw2]; exact F0.out.put6_o (by omega) s
      replace F1 : Hid (SW v_7 b2 s) := by rw [hw2]; exact F1.out.put6_o (by omega) s
      replace F2 : Hid (XW v_7 b3 x) := by rw [hw2]; exact F2.out.put6_o (by omega) s
      replace F3 : Hid (XW v_7 b4 y) := by rw [hw2]; exact F3.out.put6_o (by omega) s
      replace G0 : Hid (HW v_7 w.heap.size h) := by rw [hw2]; exact G0.out.put6_o (by omega) s
      replace G1 : Hid (SW v_7 (w.heap.size + 1) s) := by rw [hw2]; exact G1.out.put s
      replace G2 : Hid (XW v_7 (w.heap.size + 2) (⟨0, false, false⟩ : Cm)) := by rw [hw2]; exact G2.out.put6_o (by omega) s
      replace G3 : Hid (XW v_7 (w.heap.size + 3) (⟨0, false, false⟩ : Cm)) := by rw [hw2]; exact G3.out.put6_o (by omega) s
      replace FK : Hid (Keeps sb w v_7) := by rw [hw2]; exact FK.out.put6_o (by omega) s
      clear hw2
      clear x0_0 x0_1 x0_2 x0_3 x0_4 x0_5 x0_6 x0_7 x0_8 x0_9 x0_10 x0_11 x1_0 x1_1 x1_2 x1_3 x1_4 x1_5 x2_0 x2_1 x2_2 x3_0 x3_1 x3_2
      obtain ⟨x0_0, x0_1, x0_2, x0_3, x0_4, x0_5, x0_6, x0_7, x0_8, x0_9, x0_10, x0_11⟩ := F0.out
      obtain ⟨x1_0, x1_1, x1_2, x1_3, x1_4, x1_5, y1_0, y1_1, y1_2, y1_3, y1_4, y1_5⟩ := F1.out
      obtain ⟨x2_0, x2_1, x2_2, y2_0, y2_1, y2_2⟩ := F2.out
      obtain ⟨x3_0, x3_1, x3_2, y3_0, y3_1, y3_2⟩ := F3.out
      refine hK.out _ _ (by (try dsimp only); first | exact ⟨x0_0, x0_1, x0_2, x0_3, x0_4, x0_5, x0_6, x0_7, x0_8, x0_9, x0_10, x0_11, x1_0, x1_1, x1_2, x1_3, x1_4, x1_5, x2_0, x2_1, x2_2, x3_0, x3_1, x3_2⟩ | go_keep) (fun hHeld => ?_)
      clear hK K
      try simp only [Act.put, List.getElem_toArray, List.getElem_cons_succ, List.getElem_cons_zero, List.setIfInBounds_toArray, List.set_cons_zero, List.set_cons_succ]
      refine wpAnyH_ready (rs := [34]) (by kernel_rfl) (by simp) ?_
      refine (AllReadyH.cons rfl (fun K hK => ?_) AllReadyH.nil)
      obtain ⟨j0, j1, j2, q0, q1, q2⟩ := G2.out
      try dsimp only at j0 j1 j2
      go_simp
      obtain ⟨v_8, hw2⟩ : ∃ v_8, v_8 = putX v_7 (w.heap.size + 2) x := ⟨_, rfl⟩
      change K _ (putX v_7 (w.heap.size + 2) x)
      rw [← hw2]
      clear j0 j1 j2 q0 q1 q2
      replace F0 : Hid (HAt v_8 b1 h) := by rw [hw2]; exact F0.out.putX_o (by omega) x
      replace F1 : Hid (SW v_8 b2 s) := by rw [hw2]; exact F1.out.putX_o (by omega) x
      replace F2 : Hid (XW v_8 b3 x) := by rw [hw2]; exact F2.out.putX_o (by omega) x
      replace F3 : Hid (XW v_8 b4 y) := by rw [hw2]; exact F3.out.putX_o (by omega) x
      replace G0 : Hid (HW v_8 w.heap.size h) := by rw [hw2]; exact G0.out.putX_o (by omega) x
      replace G1 : Hid (SW v_8 (w.heap.size + 1) s) := by rw [hw2]; exact G1.out.putX_o (by omega) x
      replace G2 : Hid (XW v_8 (w.heap.size + 2) x) := by rw [hw2]; exact G2.out.put x
      replace G3 : Hid (XW v_8 (w.heap.size + 3) (⟨0, false, false⟩ : Cm)) := by rw [hw2]; exact G3.out.putX_o (by omega) x
      replace FK : Hid (Keeps sb w v_8) := by rw [hw2]; exact FK.out.putX (by omega) x
      clear hw2
      clear x0_0 x0_1 x0_2 x0_3 x0_4 x0_5 x0_6 x0_7 x0_8 x0_9 x0_10 x0_11 x1_0 x1_1 x1_2 x1_3 x1_4 x1_5 x2_0 x2_1 x2_2 x3_0 x3_1 x3_2
      obtain ⟨x0_0, x0_1, x0_2, x0_3, x0_4, x0_5, x0_6, x0_7, x0_8, x0_9, x0_10, x0_11⟩ := F0.out
      obtain ⟨x1_0, x1_1, x1_2, x1_3, x1_4, x1_5, y1_0, y1_1, y1_2, y1_3, y1_4, y1_5⟩ := F1.out
      obtain ⟨x2_0, x2_1, x2_2, y2_0, y2_1, y2_2⟩ := F2.out
      obtain ⟨x3_0, x3_1, x3_2, y3_0, y3_1, y3_2⟩ := F3.out
      refine hK.out _ _ (by (try dsimp only); first | exact ⟨x0_0, x0_1, x0_2, x0_3, x0_4, x0_5, x0_6, x0_7, x0_8, x0_9, x0_10, x0_11, x1_0, x1_1, x1_2, x1_3, x1_4, x1_5, x2_0, x2_1, x2_2, x3_0, x3_1, x3_2⟩ | go_keep) (fun hHeld => ?_)
      clear hK K
      try simp only [Act.put, List.getElem_toArray, List.getElem_cons_succ, List.getElem_cons_zero, List.setIfInBounds_toArray, List.set_cons_zero, List.set_cons_succ]
      refine wpAnyH_ready (rs := [35]) (by kernel_rfl) (by simp) ?_
      refine (AllReadyH.cons rfl (fun K hK => ?_) AllReadyH.nil)
      obtain ⟨i0, i1, i2, p0, p1, p2⟩ := G3.out
      try dsimp only at i0 i1 i2
      go_simp
      obtain ⟨v_9, hw2⟩ : ∃ v_9, v_9 = putX v_8 (w.heap.size + 3) y := ⟨_, rfl⟩
      change K _ (putX v_8 (w.heap.size + 3) y)
      rw [← hw2]
      clear i0 i1 i2 p0 p1 p2
      replace F0 : Hid (HAt v_9 b1 h) := by rw [hw2]; exact F0.out.putX_o (by omega) y
      replace F1 : Hid (SW v_9 b2 s) := by rw [hw2]; exact F1.out.putX_o (by omega) y
      replace F2 : Hid (XW v_9 b3 x) := by rw [hw2]; exact F2.out.putX_o (by omega) y
      replace F3 : Hid (XW v_9 b4 y) := by rw [hw2]; exact F3.out.putX_o (by omega) y
      replace G0 : Hid (HW v_9 w.heap.size h) := by rw [hw2]; exact G0.out.putX_o (by omega) y
      replace G1 : Hid (SW v_9 (w.heap.size + 1) s) := by rw [hw2]; exact G1.out.putX_o (by omega) y
      replace G2 : Hid (XW v_9 (w.heap.size + 2) x) := by rw [hw2]; exact G2.out.putX_o (by omega) y
      replace G3 : Hid (XW v_9 (w.heap.size + 3) y) := by rw [hw2]; exact G3.out.put y
      replace FK : Hid (Keeps sb w v_9) := by rw [hw2]; exact FK.out.putX (by omega) y
      clear hw2
      clear x0_0 x0_1 x0_2 x0_3 x0_4 x0_5 x0_6 x0_7 x0_8 x0_9 x0_10 x0_11 x1_0 x1_1 x1_2 x1_3 x1_4 x1_5 x2_0 x2_1 x2_2 x3_0 x3_1 x3_2
      obtain ⟨x0_0, x0_1, x0_2, x0_3, x0_4, x0_5, x0_6, x0_7, x0_8, x0_9, x0_10, x0_11⟩ := F0.out
      obtain ⟨x1_0, x1_1, x1_2, x1_3, x1_4, x1_5, y1_0, y1_1, y1_2, y1_3, y1_4, y1_5⟩ := F1.out
      obtain ⟨x2_0, x2_1, x2_2, y2_0, y2_1, y2_2⟩ := F2.out
      obtain ⟨x3_0, x3_1, x3_2, y3_0, y3_1, y3_2⟩ := F3.out
      refine hK.out _ _ (by (try dsimp only); first | exact ⟨x0_0, x0_1, x0_2, x0_3, x0_4, x0_5, x0_6, x0_7, x0_8, x0_9, x0_10, x0_11, x1_0, x1_1, x1_2, x1_3, x1_4, x1_5, x2_0, x2_1, x2_2, x3_0, x3_1, x3_2⟩ | go_keep) (fun hHeld => ?_)
      clear hK K
      try simp only [Act.put, List.getElem_toArray, List.getElem_cons_succ, List.getElem_cons_zero, List.setIfInBounds_toArray, List.set_cons_zero, List.set_cons_succ]
      refine tkz 36 rfl ?_
      refine tkz 37 rfl ?_
      refine wpAnyH_done (by kernel_rfl) ?_ _
      obtain ⟨d0, d1, d2, d3, d4, d5, d6, d7, d8, d9, d10, d11, e0, e1, e2, e3, e4, e5, e6, e7, e8, e9, e10, e11⟩ := G0.out
      obtain ⟨k0, k1, k2, k3, k4, k5, -, -, -, -, -, -⟩ := G1.out
      obtain ⟨j0, j1, j2, -, -, -⟩ := G2.out
      obtain ⟨i0, i1, i2, -, -, -⟩ := G3.out
      go_wp2_with fail
      exact bodyPost_ret (v := .tuple #[.agg #[.int .i64 h.fl, .int .i64 h.gp, .int .i64 h.ln, .int .i64 h.rf, .int .i64 h.sp, .int .i64 h.pu, .int .i64 h.br, .int .i64 h.dr, .int .i64 h.lv, .int .i64 h.dO, .int .i64 h.ld, .int .i64 h.qu], .agg #[.int .i64 s.lo.pos, .int .i64 s.lo.vel, .int .i64 s.lo.door, .int .i64 s.up.pos, .int .i64 s.up.vel, .int .i64 s.up.door], .agg #[.int .i64 x.push, .bool x.brk, .bool x.opn], .agg #[.int .i64 y.push, .bool y.brk, .bool y.opn], .int .i64 dl, .int .i64 du]) (by simp [results, Try.results13, go_sem, d0, d1, d2, d3, d4, d5, d6, d7, d8, d9, d10, d11, k0, k1, k2, k3, k4, k5, j0, j1, j2, i0, i1, i2]) rfl ⟨h, s, x, y, dl, du, rfl, FK.out.below (by omega) (Nat.le_refl _)⟩
    · go_simp
      obtain ⟨lb30, hbb⟩ : ∃ lb30, lb30 = v_2.heap.size := ⟨_, rfl⟩
      obtain ⟨v_10, hw2⟩ : ∃ v_10, v_10 = v_2.alloc (.cells #[.int .i64 0, .int .i64 h.dr, .int .i64 (-h.dr), .int .i64 (-h.dr), .int .i64 (h.dr + 1)] 2) := ⟨_, rfl⟩
      have nlb30_0 := F0.out.lt
      rw [← hbb] at nlb30_0
      have nlb30_1 := F1.out.lt
      rw [← hbb] at nlb30_1
      have nlb30_2 := F2.out.lt
      rw [← hbb] at nlb30_2
      have nlb30_3 := F3.out.lt
      rw [← hbb] at nlb30_3
      have nlb30_4 := G0.out.lt
      rw [← hbb] at nlb30_4
      have nlb30_5 := G1.out.lt
      rw [← hbb] at nlb30_5
      have nlb30_6 := G2.out.lt
      rw [← hbb] at nlb30_6
      have nlb30_7 := G3.out.lt
      rw [← hbb] at nlb30_7
      have nlb30_s := FS.out.lt
      rw [← hbb] at nlb30_s
      have nlb30_10 := FL16.out.lt
      rw [← hbb] at nlb30_10
      have FL30 : Hid (LstAt v_10 lb30 [0, h.dr, (-h.dr), (-h.dr), (h.dr + 1)]) := by rw [hw2]; exact LstAt.new v_2 [0, h.dr, (-h.dr), (-h.dr), (h.dr + 1)] 2 lb30 hbb (by simp)
      replace F0 : Hid (HAt v_10 b1 h) := by rw [hw2]; exact F0.out.alloc _
      replace F1 : Hid (SW v_10 b2 s) := by rw [hw2]; exact F1.out.alloc _
      replace F2 : Hid (XW v_10 b3 x) := by rw [hw2]; exact F2.out.alloc _
      replace F3 : Hid (XW v_10 b4 y) := by rw [hw2]; exact F3.out.alloc _
      replace G0 : Hid (HW v_10 w.heap.size (⟨0, 0, 0, 0, 0, 0, 0, 0, 0, 0, 0, 0⟩ : Hs)) := by rw [hw2]; exact G0.out.alloc _
      replace G1 : Hid (R6 v_10 (w.heap.size + 1)) := by rw [hw2]; exact G1.out.alloc _
      replace G2 : Hid (XW v_10 (w.heap.size + 2) (⟨0, false, false⟩ : Cm)) := by rw [hw2]; exact G2.out.alloc _
      replace G3 : Hid (XW v_10 (w.heap.size + 3) (⟨0, false, false⟩ : Cm)) := by rw [hw2]; exact G3.out.alloc _
      replace FS : Hid (SrcT v_10 sb w.heap.size a len cap (0 + 200)) := by rw [hw2]; exact FS.out.alloc _
      replace FK : Hid (Keeps sb w v_10) := by rw [hw2]; exact FK.out.alloc _
      replace FL16 : Hid (LstAt v_10 lb16 [0, h.dr, (-h.dr), h.dr, (-h.dr - 1)]) := by rw [hw2]; exact FL16.out.alloc _
      rw [← hw2, ← hbb]
      clear hbb hw2
      clear x0_0 x0_1 x0_2 x0_3 x0_4 x0_5 x0_6 x0_7 x0_8 x0_9 x0_10 x0_11 x1_0 x1_1 x1_2 x1_3 x1_4 x1_5 x2_0 x2_1 x2_2 x3_0 x3_1 x3_2
      obtain ⟨x0_0, x0_1, x0_2, x0_3, x0_4, x0_5, x0_6, x0_7, x0_8, x0_9, x0_10, x0_11⟩ := F0.out
      obtain ⟨x1_0, x1_1, x1_2, x1_3, x1_4, x1_5, y1_0, y1_1, y1_2, y1_3, y1_4, y1_5⟩ := F1.out
      obtain ⟨x2_0, x2_1, x2_2, y2_0, y2_1, y2_2⟩ := F2.out
      obtain ⟨x3_0, x3_1, x3_2, y3_0, y3_1, y3_2⟩ := F3.out
      refine hK.out _ _ (by (try dsimp only); first | exact ⟨x0_0, x0_1, x0_2, x0_3, x0_4, x0_5, x0_6, x0_7, x0_8, x0_9, x0_10, x0_11, x1_0, x1_1, x1_2, x1_3, x1_4, x1_5, x2_0, x2_1, x2_2, x3_0, x3_1, x3_2⟩ | go_keep) (fun hHeld => ?_)
      clear hK K
      try simp only [Act.put, List.getElem_toArray, List.getElem_cons_succ, List.getElem_cons_zero, List.setIfInBounds_toArray, List.set_cons_zero, List.set_cons_succ]
      refine wpAnyH_ready (rs := [17]) (by kernel_rfl) (by simp) ?_
      refine (AllReadyH.cons rfl (fun K hK => ?_) AllReadyH.nil)
      go_simp
      refine (l1Pick_t sb _ lb16 [0, h.dr, (-h.dr), h.dr, (-h.dr - 1)] (fun _ => True) (fun _ _ => trivial) a len cap _ _ FS.out (by omega) FL16.out (by simp) (by omega)).mono ?_
      rintro e v_11 ⟨dl, rfl, -, hs, hk⟩
      replace F0 : Hid (HAt v_11 b1 h) := F0.out.keeps hk (by omega)
      replace F1 : Hid (SW v_11 b2 s) := F1.out.keeps hk (by omega)
      replace F2 : Hid (XW v_11 b3 x) := F2.out.keeps hk (by omega)
      replace F3 : Hid (XW v_11 b4 y) := F3.out.keeps hk (by omega)
      replace G0 : Hid (HW v_11 w.heap.size (⟨0, 0, 0, 0, 0, 0, 0, 0, 0, 0, 0, 0⟩ : Hs)) := G0.out.keeps hk (by omega)
      replace G1 : Hid (R6 v_11 (w.heap.size + 1)) := G1.out.keeps hk (by omega)
      replace G2 : Hid (XW v_11 (w.heap.size + 2) (⟨0, false, false⟩ : Cm)) := G2.out.keeps hk (by omega)
      replace G3 : Hid (XW v_11 (w.heap.size + 3) (⟨0, false, false⟩ : Cm)) := G3.out.keeps hk (by omega)
      replace FS : Hid (SrcT v_11 sb w.heap.size a len cap ((0 + 200) + 1)) := hs
      replace FK : Hid (Keeps sb w v_11) := FK.out.trans hk
      replace FL16 : Hid (LstAt v_11 lb16 [0, h.dr, (-h.dr), h.dr, (-h.dr - 1)]) := FL16.out.keeps hk (by omega)
      replace FL30 : Hid (LstAt v_11 lb30 [0, h.dr, (-h.dr), (-h.dr), (h.dr + 1)]) := FL30.out.keeps hk (by omega)
      clear hs hk
      clear x0_0 x0_1 x0_2 x0_3 x0_4 x0_5 x0_6 x0_7 x0_8 x0_9 x0_10 x0_11 x1_0 x1_1 x1_2 x1_3 x1_4 x1_5 x2_0 x2_1 x2_2 x3_0 x3_1 x3_2
      obtain ⟨x0_0, x0_1, x0_2, x0_3, x0_4, x0_5, x0_6, x0_7, x0_8, x0_9, x0_10, x0_11⟩ := F0.out
      obtain ⟨x1_0, x1_1, x1_2, x1_3, x1_4, x1_5, y1_0, y1_1, y1_2, y1_3, y1_4, y1_5⟩ := F1.out
      obtain ⟨x2_0, x2_1, x2_2, y2_0, y2_1, y2_2⟩ := F2.out
      obtain ⟨x3_0, x3_1, x3_2, y3_0, y3_1, y3_2⟩ := F3.out
      try dsimp only
      refine hK.out _ _ (by (try dsimp only); first | exact ⟨x0_0, x0_1, x0_2, x0_3, x0_4, x0_5, x0_6, x0_7, x0_8, x0_9, x0_10, x0_11, x1_0, x1_1, x1_2, x1_3, x1_4, x1_5, x2_0, x2_1, x2_2, x3_0, x3_1, x3_2⟩ | go_keep) (fun hHeld => ?_)
      clear hK K
      try simp only [Act.put, List.getElem_toArray, List.getElem_cons_succ, List.getElem_cons_zero, List.setIfInBounds_toArray, List.set_cons_zero, List.set_cons_succ]
      refine wpAnyH_ready (rs := [31]) (by kernel_rfl) (by simp) ?_
      refine (AllReadyH.cons rfl (fun K hK => ?_) AllReadyH.nil)
      go_simp
      refine (l1Pick_t sb _ lb30 [0, h.dr, (-h.dr), (-h.dr), (h.dr + 1)] (fun _ => True) (fun _ _ => trivial) a len cap _ _ FS.out (by omega) FL30.out (by simp) (by omega)).mono ?_
      rintro e v_12 ⟨du, rfl, -, hs, hk⟩
      replace F0 : Hid (HAt v_12 b1 h) := F0.out.keeps hk (by omega)
      replace F1 : Hid (SW v_12 b2 s) := F1.out.keeps hk (by omega)
      replace F2 : Hid (XW v_12 b3 x) := F2.out.keeps hk (by omega)
      replace F3 : Hid (XW v_12 b4 y) := F3.out.keeps hk (by omega)
      replace G0 : Hid (HW v_12 w.heap.size (⟨0, 0, 0, 0, 0, 0, 0, 0, 0, 0, 0, 0⟩ : Hs)) := G0.out.keeps hk (by omega)
      replace G1 : Hid (R6 v_12 (w.heap.size + 1)) := G1.out.keeps hk (by omega)
      replace G2 : Hid (XW v_12 (w.heap.size + 2) (⟨0, false, false⟩ : Cm)) := G2.out.keeps hk (by omega)
      replace G3 : Hid (XW v_12 (w.heap.size + 3) (⟨0, false, false⟩ : Cm)) := G3.out.keeps hk (by omega)
      replace FS : Hid (SrcT v_12 sb w.heap.size a len cap (((0 + 200) + 1) + 1)) := hs
      replace FK : Hid (Keeps sb w v_12) := FK.out.trans hk
      replace FL16 : Hid (LstAt v_12 lb16 [0, h.dr, (-h.dr), h.dr, (-h.dr - 1)]) := FL16.out.keeps hk (by omega)
      replace FL30 : Hid (LstAt v_12 lb30 [0, h.dr, (-h.dr), (-h.dr), (h.dr + 1)]) := FL30.out.keeps hk (by omega)
      clear hs hk
      clear x0_0 x0_1 x0_2 x0_3 x0_4 x0_5 x0_6 x0_7 x0_8 x0_9 x0_10 x0_11 x1_0 x1_1 x1_2 x1_3 x1_4 x1_5 x2_0 x2_1 x2_2 x3_0 x3_1 x3_2
      obtain ⟨x0_0, x0_1, x0_2, x0_3, x0_4, x0_5, x0_6, x0_7, x0_8, x0_9, x0_10, x0_11⟩ := F0.out
      obtain ⟨x1_0, x1_1, x1_2, x1_3, x1_4, x1_5, y1_0, y1_1, y1_2, y1_3, y1_4, y1_5⟩ := F1.out
      obtain ⟨x2_0, x2_1, x2_2, y2_0, y2_1, y2_2⟩ := F2.out
      obtain ⟨x3_0, x3_1, x3_2, y3_0, y3_1, y3_2⟩ := F3.out
      try dsimp only
      refine hK.out _ _ (by (try dsimp only); first | exact ⟨x0_0, x0_1, x0_2, x0_3, x0_4, x0_5, x0_6, x0_7, x0_8, x0_9, x0_10, x0_11, x1_0, x1_1, x1_2, x1_3, x1_4, x1_5, x2_0, x2_1, x2_2, x3_0, x3_1, x3_2⟩ | go_keep) (fun hHeld => ?_)
      clear hK K
      try simp only [Act.put, List.getElem_toArray, List.getElem_cons_succ, List.getElem_cons_zero, List.setIfInBounds_toArray, List.set_cons_zero, List.set_cons_succ]
      refine wpAnyH_ready (rs := [32]) (by kernel_rfl) (by simp) ?_
      refine (AllReadyH.cons rfl (fun K hK => ?_) AllReadyH.nil)
      obtain ⟨d0, d1, d2, d3, d4, d5, d6, d7, d8, d9, d10, d11, e0, e1, e2, e3, e4, e5, e6, e7, e8, e9, e10, e11⟩ := G0.out
      try dsimp only at d0 d1 d2 d3 d4 d5 d6 d7 d8 d9 d10 d11
      go_simp
      obtain ⟨v_13, hw2⟩ : ∃ v_13, v_13 = putH v_12 w.heap.size h := ⟨_, rfl⟩
      change K _ (putH v_12 w.heap.size h)
      rw [← hw2]
      clear d0 d1 d2 d3 d4 d5 d6 d7 d8 d9 d10 d11 e0 e1 e2 e3 e4 e5 e6 e7 e8 e9 e10 e11
      replace F0 : Hid (HAt v_13 b1 h) := by rw [hw2]; exact F0.out.putH_o (by omega) h
      replace F1 : Hid (SW v_13 b2 s) := by rw [hw2]; exact F1.out.putH_o (by omega) h
      replace F2 : Hid (XW v_13 b3 x) := by rw [hw2]; exact F2.out.putH_o (by omega) h
      replace F3 : Hid (XW v_13 b4 y) := by rw [hw2]; exact F3.out.putH_o (by omega) h
      replace G0 : Hid (HW v_13 w.heap.size h) := by rw [hw2]; exact G0.out.put h
      replace G1 : Hid (R6 v_13 (w.heap.size + 1)) := by rw [hw2]; exact G1.out.putH_o (by omega) h
      replace G2 : Hid (XW v_13 (w.heap.size + 2) (⟨0, false, false⟩ : Cm)) := by rw [hw2]; exact G2.out.putH_o (by omega) h
      replace G3 : Hid (XW v_13 (w.heap.size + 3) (⟨0, false, false⟩ : Cm)) := by rw [hw2]; exact G3.out.putH_o (by omega) h
      replace FK : Hid (Keeps sb w v_13) := by rw [hw2]; exact FK.out.putH_o (Nat.le_refl _) h
      clear hw2
      clear x0_0 x0_1 x0_2 x0_3 x0_4 x0_5 x0_6 x0_7 x0_8 x0_9 x0_10 x0_11 x1_0 x1_1 x1_2 x1_3 x1_4 x1_5 x2_0 x2_1 x2_2 x3_0 x3_1 x3_2
      obtain ⟨x0_0, x0_1, x0_2, x0_3, x0_4, x0_5, x0_6, x0_7, x0_8, x0_9, x0_10, x0_11⟩ := F0.out
      obtain ⟨x1_0, x1_1, x1_2, x1_3, x1_4, x1_5, y1_0, y1_1, y1_2, y1_3, y1_4, y1_5⟩ := F1.out
      obtain ⟨x2_0, x2_1, x2_2, y2_0, y2_1, y2_2⟩ := F2.out
      obtain ⟨x3_0, x3_1, x3_2, y3_0, y3_1, y3_2⟩ := F3.out
      refine hK.out _ _ (by (try dsimp only); first | exact ⟨x0_0, x0_1, x0_2, x0_3, x0_4, x0_5, x0_6, x0_7, x0_8, x0_9, x0_10, x0_11, x1_0, x1_1, x1_2, x1_3, x1_4, x1_5, x2_0, x2_1, x2_2, x3_0, x3_1, x3_2⟩ | go_keep) (fun hHeld => ?_)
      clear hK K
      try simp only [Act.put, List.getElem_toArray, List.getElem_cons_succ, List.getElem_cons_zero, List.setIfInBounds_toArray, List.set_cons_zero, List.set_cons_succ]
      refine wpAnyH_ready (rs := [33]) (by kernel_rfl) (by simp) ?_
      refine (AllReadyH.cons rfl (fun K hK => ?_) AllReadyH.nil)
      obtain ⟨r0, r1, r2, r3, r4, r5, s0, s1, s2, s3, s4, s5⟩ := G1.out
      go_simp
      obtain ⟨v_14, hw2⟩ : ∃ v_14, v_14 = put6 v_13 (w.heap.size + 1) s := ⟨_, rfl⟩
      change K _ (put6 v_13 (w.heap.size + 1) s)
      rw [← hw2]
      clear r0 r1 r2 r3 r4 r5 s0 s1 s2 s3 s4 s5
      replace F0 : Hid (HAt v_14 b1 h) := by rw [hw2]; exact F0.out.put6_o (by omega) s
      replace F1 : Hid (SW v_14 b2 s) := by rw [hw2]; exact F1.out.put6_o (by omega) s
      replace F2 : Hid (XW v_14 b3 x) := by rw [hw2]; exact F2.out.put6_o (by omega) s
      replace F3 : Hid (XW v_14 b4 y) := by rw [hw2]; exact F3.out.put6_o (by omega) s
      replace G0 : Hid (HW v_14 w.heap.size h) := by rw [hw2]; exact G0.out.put6_o (by omega) s
      replace G1 : Hid (SW v_14 (w.heap.size + 1) s) := by rw [hw2]; exact G1.out.put s
      replace G2 : Hid (XW v_14 (w.heap.size + 2) (⟨0, false, false⟩ : Cm)) := by rw [hw2]; exact G2.out.put6_o (by omega) s
      replace G3 : Hid (XW v_14 (w.heap.size + 3) (⟨0, false, false⟩ : Cm)) := by rw [hw2]; exact G3.out.put6_o (by omega) s
      replace FK : Hid (Keeps sb w v_14) := by rw [hw2]; exact FK.out.put6_o (by omega) s
      clear hw2
      clear x0_0 x0_1 x0_2 x0_3 x0_4 x0_5 x0_6 x0_7 x0_8 x0_9 x0_10 x0_11 x1_0 x1_1 x1_2 x1_3 x1_4 x1_5 x2_0 x2_1 x2_2 x3_0 x3_1 x3_2
      obtain ⟨x0_0, x0_1, x0_2, x0_3, x0_4, x0_5, x0_6, x0_7, x0_8, x0_9, x0_10, x0_11⟩ := F0.out
      obtain ⟨x1_0, x1_1, x1_2, x1_3, x1_4, x1_5, y1_0, y1_1, y1_2, y1_3, y1_4, y1_5⟩ := F1.out
      obtain ⟨x2_0, x2_1, x2_2, y2_0, y2_1, y2_2⟩ := F2.out
      obtain ⟨x3_0, x3_1, x3_2, y3_0, y3_1, y3_2⟩ := F3.out
      refine hK.out _ _ (by (try dsimp only); first | exact ⟨x0_0, x0_1, x0_2, x0_3, x0_4, x0_5, x0_6, x0_7, x0_8, x0_9, x0_10, x0_11, x1_0, x1_1, x1_2, x1_3, x1_4, x1_5, x2_0, x2_1, x2_2, x3_0, x3_1, x3_2⟩ | go_keep) (fun hHeld => ?_)
      clear hK K
      try simp only [Act.put, List.getElem_toArray, List.getElem_cons_succ, List.getElem_cons_zero, List.setIfInBounds_toArray, List.set_cons_zero, List.set_cons_succ]
      refine wpAnyH_ready (rs := [34]) (by kernel_rfl) (by simp) ?_
      refine (AllReadyH.cons rfl (fun K hK => ?_) AllReadyH.nil)
      obtain ⟨j0, j1, j2, q0, q1, q2⟩ := G2.out
      try dsimp only at j0 j1 j2
      go_simp
      obtain ⟨v_15, hw2⟩ : ∃ v_15, v_15 = putX v_14 (w.heap.size + 2) x := ⟨_, rfl⟩
      change K _ (putX v_14 (w.heap.size + 2) x)
      rw [← hw2]
      clear j0 j1 j2 q0 q1 q2
      replace F0 : Hid (HAt v_15 b1 h) := by rw [hw2]; exact F0.out.putX_o (by omega) x
      replace F1 : Hid (SW v_15 b2 s) := by rw [hw2]; exact F1.out.putX_o (by omega) x
      replace F2 : Hid (XW v_15 b3 x) := by rw [hw2]; exact F2.out.putX_o (by omega) x
      replace F3 : Hid (XW v_15 b4 y) := by rw [hw2]; exact F3.out.putX_o (by omega) x
      replace G0 : Hid (HW v_15 w.heap.size h) := by rw [hw2]; exact G0.out.putX_o (by omega) x
      replace G1 : Hid (SW v_15 (w.heap.size + 1) s) := by rw [hw2]; exact G1.out.putX_o (by omega) x
      replace G2 : Hid (XW v_15 (w.heap.size + 2) x) := by rw [hw2]; exact G2.out.put x
      replace G3 : Hid (XW v_15 (w.heap.size + 3) (⟨0, false, false⟩ : Cm)) := by rw [hw2]; exact G3.out.putX_o (by omega) x
      replace FK : Hid (Keeps sb w v_15) := by rw [hw2]; exact FK.out.putX (by omega) x
      clear hw2
      clear x0_0 x0_1 x0_2 x0_3 x0_4 x0_5 x0_6 x0_7 x0_8 x0_9 x0_10 x0_11 x1_0 x1_1 x1_2 x1_3 x1_4 x1_5 x2_0 x2_1 x2_2 x3_0 x3_1 x3_2
      obtain ⟨x0_0, x0_1, x0_2, x0_3, x0_4, x0_5, x0_6, x0_7, x0_8, x0_9, x0_10, x0_11⟩ := F0.out
      obtain ⟨x1_0, x1_1, x1_2, x1_3, x1_4, x1_5, y1_0, y1_1, y1_2, y1_3, y1_4, y1_5⟩ := F1.out
      obtain ⟨x2_0, x2_1, x2_2, y2_0, y2_1, y2_2⟩ := F2.out
      obtain ⟨x3_0, x3_1, x3_2, y3_0, y3_1, y3_2⟩ := F3.out
      refine hK.out _ _ (by (try dsimp only); first | exact ⟨x0_0, x0_1, x0_2, x0_3, x0_4, x0_5, x0_6, x0_7, x0_8, x0_9, x0_10, x0_11, x1_0, x1_1, x1_2, x1_3, x1_4, x1_5, x2_0, x2_1, x2_2, x3_0, x3_1, x3_2⟩ | go_keep) (fun hHeld => ?_)
      clear hK K
      try simp only [Act.put, List.getElem_toArray, List.getElem_cons_succ, List.getElem_cons_zero, List.setIfInBounds_toArray, List.set_cons_zero, List.set_cons_succ]
      refine wpAnyH_ready (rs := [35]) (by kernel_rfl) (by simp) ?_
      refine (AllReadyH.cons rfl (fun K hK => ?_) AllReadyH.nil)
      obtain ⟨i0, i1, i2, p0, p1, p2⟩ := G3.out
      try dsimp only at i0 i1 i2
      go_simp
      obtain ⟨v_16, hw2⟩ : ∃ v_16, v_16 = putX v_15 (w.heap.size + 3) y := ⟨_, rfl⟩
      change K _ (putX v_15 (w.heap.size + 3) y)
      rw [← hw2]
      clear i0 i1 i2 p0 p1 p2
      replace F0 : Hid (HAt v_16 b1 h) := by rw [hw2]; exact F0.out.putX_o (by omega) y
      replace F1 : Hid (SW v_16 b2 s) := by rw [hw2]; exact F1.out.putX_o (by omega) y
      replace F2 : Hid (XW v_16 b3 x) := by rw [hw2]; exact F2.out.putX_o (by omega) y
      replace F3 : Hid (XW v_16 b4 y) := by rw [hw2]; exact F3.out.putX_o (by omega) y
      replace G0 : Hid (HW v_16 w.heap.size h) := by rw [hw2]; exact G0.out.putX_o (by omega) y
      replace G1 : Hid (SW v_16 (w.heap.size + 1) s) := by rw [hw2]; exact G1.out.putX_o (by omega) y
      replace G2 : Hid (XW v_16 (w.heap.size + 2) x) := by rw [hw2]; exact G2.out.putX_o (by omega) y
      replace G3 : Hid (XW v_16 (w.heap.size + 3) y) := by rw [hw2]; exact G3.out.put y
      replace FK : Hid (Keeps sb w v_16) := by rw [hw2]; exact FK.out.putX (by omega) y
      clear hw2
      clear x0_0 x0_1 x0_2 x0_3 x0_4 x0_5 x0_6 x0_7 x0_8 x0_9 x0_10 x0_11 x1_0 x1_1 x1_2 x1_3 x1_4 x1_5 x2_0 x2_1 x2_2 x3_0 x3_1 x3_2
      obtain ⟨x0_0, x0_1, x0_2, x0_3, x0_4, x0_5, x0_6, x0_7, x0_8, x0_9, x0_10, x0_11⟩ := F0.out
      obtain ⟨x1_0, x1_1, x1_2, x1_3, x1_4, x1_5, y1_0, y1_1, y1_2, y1_3, y1_4, y1_5⟩ := F1.out
      obtain ⟨x2_0, x2_1, x2_2, y2_0, y2_1, y2_2⟩ := F2.out
      obtain ⟨x3_0, x3_1, x3_2, y3_0, y3_1, y3_2⟩ := F3.out
      refine hK.out _ _ (by (try dsimp only); first | exact ⟨x0_0, x0_1, x0_2, x0_3, x0_4, x0_5, x0_6, x0_7, x0_8, x0_9, x0_10, x0_11, x1_0, x1_1, x1_2, x1_3, x1_4, x1_5, x2_0, x2_1, x2_2, x3_0, x3_1, x3_2⟩ | go_keep) (fun hHeld => ?_)
      clear hK K
      try simp only [Act.put, List.getElem_toArray, List.getElem_cons_succ, List.getElem_cons_zero, List.setIfInBounds_toArray, List.set_cons_zero, List.set_cons_succ]
      refine tkz 36 rfl ?_
      refine tkz 37 rfl ?_
      refine wpAnyH_done (by kernel_rfl) ?_ _
      obtain ⟨d0, d1, d2, d3, d4, d5, d6, d7, d8, d9, d10, d11, e0, e1, e2, e3, e4, e5, e6, e7, e8, e9, e10, e11⟩ := G0.out
      obtain ⟨k0, k1, k2, k3, k4, k5, -, -, -, -, -, -⟩ := G1.out
      obtain ⟨j0, j1, j2, -, -, -⟩ := G2.out
      obtain ⟨i0, i1, i2, -, -, -⟩ := G3.out
      go_wp2_with fail
      exact bodyPost_ret (v := .tuple #[.agg #[.int .i64 h.fl, .int .i64 h.gp, .int .i64 h.ln, .int .i64 h.rf, .int .i64 h.sp, .int .i64 h.pu, .int .i64 h.br, .int .i64 h.dr, .int .i64 h.lv, .int .i64 h.dO, .int .i64 h.ld, .int .i64 h.qu], .agg #[.int .i64 s.lo.pos, .int .i64 s.lo.vel, .int .i64 s.lo.door, .int .i64 s.up.pos, .int .i64 s.up.vel, .int .i64 s.up.door], .agg #[.int .i64 x.push, .bool x.brk, .bool x.opn], .agg #[.int .i64 y.push, .bool y.brk, .bool y.opn], .int .i64 dl, .int .i64 du]) (by simp [results, Try.results13, go_sem, d0, d1, d2, d3, d4, d5, d6, d7, d8, d9, d10, d11, k0, k1, k2, k3, k4, k5, j0, j1, j2, i0, i1, i2]) rfl ⟨h, s, x, y, dl, du, rfl, FK.out.below (by omega) (Nat.le_refl _)⟩
  · go_simp
    obtain ⟨lb30, hbb⟩ : ∃ lb30, lb30 = v_1.heap.size := ⟨_, rfl⟩
    obtain ⟨v_17, hw2⟩ : ∃ v_17, v_17 = v_1.alloc (.cells #[.int .i64 0, .int .i64 h.dr, .int .i64 (-h.dr), .int .i64 (-h.dr), .int .i64 (h.dr + 1)] 2) := ⟨_, rfl⟩
    have nlb30_0 := F0.out.lt
    rw [← hbb] at nlb30_0
    have nlb30_1 := F1.out.lt
    rw [← hbb] at nlb30_1
    have nlb30_2 := F2.out.lt
    rw [← hbb] at nlb30_2
    have nlb30_3 := F3.out.lt
    rw [← hbb] at nlb30_3
    have nlb30_4 := G0.out.lt
    rw [← hbb] at nlb30_4
    have nlb30_5 := G1.out.lt
    rw [← hbb] at nlb30_5
    have nlb30_6 := G2.out.lt
    rw [← hbb] at nlb30_6
    have nlb30_7 := G3.out.lt
    rw [← hbb] at nlb30_7
    have nlb30_s := FS.out.lt
    rw [← hbb] at nlb30_s
    have FL30 : Hid (LstAt v_17 lb30 [0, h.dr, (-h.dr), (-h.dr), (h.dr + 1)]) := by rw [hw2]; exact LstAt.new v_1 [0, h.dr, (-h.dr), (-h.dr), (h.dr + 1)] 2 lb30 hbb (by simp)
    replace F0 : Hid (HAt v_17 b1 h) := by rw [hw2]; exact F0.out.alloc _
    replace F1 : Hid (SW v_17 b2 s) := by rw [hw2]; exact F1.out.alloc _
    replace F2 : Hid (XW v_17 b3 x) := by rw [hw2]; exact F2.out.alloc _
    replace F3 : Hid (XW v_17 b4 y) := by rw [hw2]; exact F3.out.alloc _
    replace G0 : Hid (HW v_17 w.heap.size (⟨0, 0, 0, 0, 0, 0, 0, 0, 0, 0, 0, 0⟩ : Hs)) := by rw [hw2]; exact G0.out.alloc _
    replace G1 : Hid (R6 v_17 (w.heap.size + 1)) := by rw [hw2]; exact G1.out.alloc _
    replace G2 : Hid (XW v_17 (w.heap.size + 2) (⟨0, false, false⟩ : Cm)) := by rw [hw2]; exact G2.out.alloc _
    replace G3 : Hid (XW v_17 (w.heap.size + 3) (⟨0, false, false⟩ : Cm)) := by rw [hw2]; exact G3.out.alloc _
    replace FS : Hid (SrcT v_17 sb w.heap.size a len cap (0 + 200)) := by rw [hw2]; exact FS.out.alloc _
    replace FK : Hid (Keeps sb w v_17) := by rw [hw2]; exact FK.out.alloc _
    rw [← hw2, ← hbb]
    clear hbb hw2
    clear x0_0 x0_1 x0_2 x0_3 x0_4 x0_5 x0_6 x0_7 x0_8 x0_9 x0_10 x0_11 x1_0 x1_1 x1_2 x1_3 x1_4 x1_5 x2_0 x2_1 x2_2 x3_0 x3_1 x3_2
    obtain ⟨x0_0, x0_1, x0_2, x0_3, x0_4, x0_5, x0_6, x0_7, x0_8, x0_9, x0_10, x0_11⟩ := F0.out
    obtain ⟨x1_0, x1_1, x1_2, x1_3, x1_4, x1_5, y1_0, y1_1, y1_2, y1_3, y1_4, y1_5⟩ := F1.out
    obtain ⟨x2_0, x2_1, x2_2, y2_0, y2_1, y2_2⟩ := F2.out
    obtain ⟨x3_0, x3_1, x3_2, y3_0, y3_1, y3_2⟩ := F3.out
    refine hK.out _ _ (by (try dsimp only); first | exact ⟨x0_0, x0_1, x0_2, x0_3, x0_4, x0_5, x0_6, x0_7, x0_8, x0_9, x0_10, x0_11, x1_0, x1_1, x1_2, x1_3, x1_4, x1_5, x2_0, x2_1, x2_2, x3_0, x3_1, x3_2⟩ | go_keep) (fun hHeld => ?_)
    clear hK K
    try simp only [Act.put, List.getElem_toArray, List.getElem_cons_succ, List.getElem_cons_zero, List.setIfInBounds_toArray, List.set_cons_zero, List.set_cons_succ]
    refine wpAnyH_ready (rs := [16]) (by kernel_rfl) (by simp) ?_
    refine (AllReadyH.cons rfl (fun K hK => ?_) AllReadyH.nil)
    go_simp
    obtain ⟨lb16, hbb⟩ : ∃ lb16, lb16 = v_17.heap.size := ⟨_, rfl⟩
    obtain ⟨v_18, hw2⟩ : ∃ v_18, v_18 = v_17.alloc (.cells #[.int .i64 0, .int .i64 h.dr, .int .i64 (-h.dr), .int .i64 h.dr, .int .i64 (-h.dr - 1)] 2) := ⟨_, rfl⟩
    have nlb16_0 := F0.out.lt
    rw [← hbb] at nlb16_0
    have nlb16_1 := F1.out.lt
    rw [← hbb] at nlb16_1
    have nlb16_2 := F2.out.lt
    rw [← hbb] at nlb16_2
    have nlb16_3 := F3.out.lt
    rw [← hbb] at nlb16_3
    have nlb16_4 := G0.out.lt
    rw [← hbb] at nlb16_4
    have nlb16_5 := G1.out.lt
    rw [← hbb] at nlb16_5
    have nlb16_6 := G2.out.lt
    rw [← hbb] at nlb16_6
    have nlb16_7 := G3.out.lt
    rw [← hbb] at nlb16_7
    have nlb16_s := FS.out.lt
    rw [← hbb] at nlb16_s
    have nlb16_10 := FL30.out.lt
    rw [← hbb] at nlb16_10
    have FL16 : Hid (LstAt v_18 lb16 [0, h.dr, (-h.dr), h.dr, (-h.dr - 1)]) := by rw [hw2]; exact LstAt.new v_17 [0, h.dr, (-h.dr), h.dr, (-h.dr - 1)] 2 lb16 hbb (by simp)
    replace F0 : Hid (HAt v_18 b1 h) := by rw [hw2]; exact F0.out.alloc _
    replace F1 : Hid (SW v_18 b2 s) := by rw [hw2]; exact F1.out.alloc _
    replace F2 : Hid (XW v_18 b3 x) := by rw [hw2]; exact F2.out.alloc _
    replace F3 : Hid (XW v_18 b4 y) := by rw [hw2]; exact F3.out.alloc _
    replace G0 : Hid (HW v_18 w.heap.size (⟨0, 0, 0, 0, 0, 0, 0, 0, 0, 0, 0, 0⟩ : Hs)) := by rw [hw2]; exact G0.out.alloc _
    replace G1 : Hid (R6 v_18 (w.heap.size + 1)) := by rw [hw2]; exact G1.out.alloc _
    replace G2 : Hid (XW v_18 (w.heap.size + 2) (⟨0, false, false⟩ : Cm)) := by rw [hw2]; exact G2.out.alloc _
    replace G3 : Hid (XW v_18 (w.heap.size + 3) (⟨0, false, false⟩ : Cm)) := by rw [hw2]; exact G3.out.alloc _
    replace FS : Hid (SrcT v_18 sb w.heap.size a len cap (0 + 200)) := by rw [hw2]; exact FS.out.alloc _
    replace FK : Hid (Keeps sb w v_18) := by rw [hw2]; exact FK.out.alloc _
    replace FL30 : Hid (LstAt v_18 lb30 [0, h.dr, (-h.dr), (-h.dr), (h.dr + 1)]) := by rw [hw2]; exact FL30.out.alloc _
    rw [← hw2, ← hbb]
    clear hbb hw2
    clear x0_0 x0_1 x0_2 x0_3 x0_4 x0_5 x0_6 x0_7 x0_8 x0_9 x0_10 x0_11 x1_0 x1_1 x1_2 x1_3 x1_4 x1_5 x2_0 x2_1 x2_2 x3_0 x3_1 x3_2
    obtain ⟨x0_0, x0_1, x0_2, x0_3, x0_4, x0_5, x0_6, x0_7, x0_8, x0_9, x0_10, x0_11⟩ := F0.out
    obtain ⟨x1_0, x1_1, x1_2, x1_3, x1_4, x1_5, y1_0, y1_1, y1_2, y1_3, y1_4, y1_5⟩ := F1.out
    obtain ⟨x2_0, x2_1, x2_2, y2_0, y2_1, y2_2⟩ := F2.out
    obtain ⟨x3_0, x3_1, x3_2, y3_0, y3_1, y3_2⟩ := F3.out
    refine hK.out _ _ (by (try dsimp only); first | exact ⟨x0_0, x0_1, x0_2, x0_3, x0_4, x0_5, x0_6, x0_7, x0_8, x0_9, x0_10, x0_11, x1_0, x1_1, x1_2, x1_3, x1_4, x1_5, x2_0, x2_1, x2_2, x3_0, x3_1, x3_2⟩ | go_keep) (fun hHeld => ?_)
    clear hK K
    try simp only [Act.put, List.getElem_toArray, List.getElem_cons_succ, List.getElem_cons_zero, List.setIfInBounds_toArray, List.set_cons_zero, List.set_cons_succ]
    refine wpAnyH_ready (rs := [17]) (by kernel_rfl) (by simp) ?_
    refine (AllReadyH.cons rfl (fun K hK => ?_) AllReadyH.nil)
    go_simp
    refine (l1Pick_t sb _ lb16 [0, h.dr, (-h.dr), h.dr, (-h.dr - 1)] (fun _ => True) (fun _ _ => trivial) a len cap _ _ FS.out (by omega) FL16.out (by simp) (by omega)).mono ?_
    rintro e v_19 ⟨dl, rfl, -, hs, hk⟩
    replace F0 : Hid (HAt v_19 b1 h) := F0.out.keeps hk (by omega)
    replace F1 : Hid (SW v_19 b2 s) := F1.out.keeps hk (by omega)
    replace F2 : Hid (XW v_19 b3 x) := F2.out.keeps hk (by omega)
    replace F3 : Hid (XW v_19 b4 y) := F3.out.keeps hk (by omega)
    replace G0 : Hid (HW v_19 w.heap.size (⟨0, 0, 0, 0, 0, 0, 0, 0, 0, 0, 0, 0⟩ : Hs)) := G0.out.keeps hk (by omega)
    replace G1 : Hid (R6 v_19 (w.heap.size + 1)) := G1.out.keeps hk (by omega)
    replace G2 : Hid (XW v_19 (w.heap.size + 2) (⟨0, false, false⟩ : Cm)) := G2.out.keeps hk (by omega)
    replace G3 : Hid (XW v_19 (w.heap.size + 3) (⟨0, false, false⟩ : Cm)) := G3.out.keeps hk (by omega)
    replace FS : Hid (SrcT v_19 sb w.heap.size a len cap ((0 + 200) + 1)) := hs
    replace FK : Hid (Keeps sb w v_19) := FK.out.trans hk
    replace FL30 : Hid (LstAt v_19 lb30 [0, h.dr, (-h.dr), (-h.dr), (h.dr + 1)]) := FL30.out.keeps hk (by omega)
    replace FL16 : Hid (LstAt v_19 lb16 [0, h.dr, (-h.dr), h.dr, (-h.dr - 1)]) := FL16.out.keeps hk (by omega)
    clear hs hk
    clear x0_0 x0_1 x0_2 x0_3 x0_4 x0_5 x0_6 x0_7 x0_8 x0_9 x0_10 x0_11 x1_0 x1_1 x1_2 x1_3 x1_4 x1_5 x2_0 x2_1 x2_2 x3_0 x3_1 x3_2
    obtain ⟨x0_0, x0_1, x0_2, x0_3, x0_4, x0_5, x0_6, x0_7, x0_8, x0_9, x0_10, x0_11⟩ := F0.out
    obtain ⟨x1_0, x1_1, x1_2, x1_3, x1_4, x1_5, y1_0, y1_1, y1_2, y1_3, y1_4, y1_5⟩ := F1.out
    obtain ⟨x2_0, x2_1, x2_2, y2_0, y2_1, y2_2⟩ := F2.out
    obtain ⟨x3_0, x3_1, x3_2, y3_0, y3_1, y3_2⟩ := F3.out
    try dsimp only
    refine hK.out _ _ (by (try dsimp only); first | exact ⟨x0_0, x0_1, x0_2, x0_3, x0_4, x0_5, x0_6, x0_7, x0_8, x0_9, x0_10, x0_11, x1_0, x1_1, x1_2, x1_3, x1_4, x1_5, x2_0, x2_1, x2_2, x3_0, x3_1, x3_2⟩ | go_keep) (fun hHeld => ?_)
    clear hK K
    try simp only [Act.put, List.getElem_toArray, List.getElem_cons_succ, List.getElem_cons_zero, List.setIfInBounds_toArray, List.set_cons_zero, List.set_cons_succ]
    refine wpAnyH_ready (rs := [31]) (by kernel_rfl) (by simp) ?_
    refine (AllReadyH.cons rfl (fun K hK => ?_) AllReadyH.nil)
    go_simp
    refine (l1Pick_t sb _ lb30 [0, h.dr, (-h.dr), (-h.dr), (h.dr + 1)] (fun _ => True) (fun _ _ => trivial) a len cap _ _ FS.out (by omega) FL30.out (by simp) (by omega)).mono ?_
    rintro e v_20 ⟨du, rfl, -, hs, hk⟩
    replace F0 : Hid (HAt v_20 b1 h) := F0.out.keeps hk (by omega)
    replace F1 : Hid (SW v_20 b2 s) := F1.out.keeps hk (by omega)
    replace F2 : Hid (XW v_20 b3 x) := F2.out.keeps hk (by omega)
    replace F3 : Hid (XW v_20 b4 y) := F3.out.keeps hk (by omega)
    replace G0 : Hid (HW v_20 w.heap.size (⟨0, 0, 0, 0, 0, 0, 0, 0, 0, 0, 0, 0⟩ : Hs)) := G0.out.keeps hk (by omega)
    replace G1 : Hid (R6 v_20 (w.heap.size + 1)) := G1.out.keeps hk (by omega)
    replace G2 : Hid (XW v_20 (w.heap.size + 2) (⟨0, false, false⟩ : Cm)) := G2.out.keeps hk (by omega)
    replace G3 : Hid (XW v_20 (w.heap.size + 3) (⟨0, false, false⟩ : Cm)) := G3.out.keeps hk (by omega)
    replace FS : Hid (SrcT v_20 sb w.heap.size a len cap (((0 + 200) + 1) + 1)) := hs
    replace FK : Hid (Keeps sb w v_20) := FK.out.trans hk
    replace FL30 : Hid (LstAt v_20 lb30 [0, h.dr, (-h.dr), (-h.dr), (h.dr + 1)]) := FL30.out.keeps hk (by omega)
    replace FL16 : Hid (LstAt v_20 lb16 [0, h.dr, (-h.dr), h.dr, (-h.dr - 1)]) := FL16.out.keeps hk (by omega)
    clear hs hk
    clear x0_0 x0_1 x0_2 x0_3 x0_4 x0_5 x0_6 x0_7 x0_8 x0_9 x0_10 x0_11 x1_0 x1_1 x1_2 x1_3 x1_4 x1_5 x2_0 x2_1 x2_2 x3_0 x3_1 x3_2
    obtain ⟨x0_0, x0_1, x0_2, x0_3, x0_4, x0_5, x0_6, x0_7, x0_8, x0_9, x0_10, x0_11⟩ := F0.out
    obtain ⟨x1_0, x1_1, x1_2, x1_3, x1_4, x1_5, y1_0, y1_1, y1_2, y1_3, y1_4, y1_5⟩ := F1.out
    obtain ⟨x2_0, x2_1, x2_2, y2_0, y2_1, y2_2⟩ := F2.out
    obtain ⟨x3_0, x3_1, x3_2, y3_0, y3_1, y3_2⟩ := F3.out
    try dsimp only
    refine hK.out _ _ (by (try dsimp only); first | exact ⟨x0_0, x0_1, x0_2, x0_3, x0_4, x0_5, x0_6, x0_7, x0_8, x0_9, x0_10, x0_11, x1_0, x1_1, x1_2, x1_3, x1_4, x1_5, x2_0, x2_1, x2_2, x3_0, x3_1, x3_2⟩ | go_keep) (fun hHeld => ?_)
    clear hK K
    try simp only [Act.put, List.getElem_toArray, List.getElem_cons_succ, List.getElem_cons_zero, List.setIfInBounds_toArray, List.set_cons_zero, List.set_cons_succ]
    refine wpAnyH_ready (rs := [32]) (by kernel_rfl) (by simp) ?_
    refine (AllReadyH.cons rfl (fun K hK => ?_) AllReadyH.nil)
    obtain ⟨d0, d1, d2, d3, d4, d5, d6, d7, d8, d9, d10, d11, e0, e1, e2, e3, e4, e5, e6, e7, e8, e9, e10, e11⟩ := G0.out
    try dsimp only at d0 d1 d2 d3 d4 d5 d6 d7 d8 d9 d10 d11
    go_simp
    obtain ⟨v_21, hw2⟩ : ∃ v_21, v_21 = putH v_20 w.heap.size h := ⟨_, rfl⟩
    change K _ (putH v_20 w.heap.size h)
    rw [← hw2]
    clear d0 d1 d2 d3 d4 d5 d6 d7 d8 d9 d10 d11 e0 e1 e2 e3 e4 e5 e6 e7 e8 e9 e10 e11
    replace F0 : Hid (HAt v_21 b1 h) := by rw [hw2]; exact F0.out.putH_o (by omega) h
    replace F1 : Hid (SW v_21 b2 s) := by rw [hw2]; exact F1.out.putH_o (by omega) h
    replace F2 : Hid (XW v_21 b3 x) := by rw [hw2]; exact F2.out.putH_o (by omega) h
    replace F3 : Hid (XW v_21 b4 y) := by rw [hw2]; exact F3.out.putH_o (by omega) h
    replace G0 : Hid (HW v_21 w.heap.size h) := by rw [hw2]; exact G0.out.put h
    replace G1 : Hid (R6 v_21 (w.heap.size + 1)) := by rw [hw2]; exact G1.out.putH_o (by omega) h
    replace G2 : Hid (XW v_21 (w.heap.size + 2) (⟨0, false, false⟩ : Cm)) := by rw [hw2]; exact G2.out.putH_o (by omega) h
    replace G3 : Hid (XW v_21 (w.heap.size + 3) (⟨0, false, false⟩ : Cm)) := by rw [hw2]; exact G3.out.putH_o (by omega) h
    replace FK : Hid (Keeps sb w v_21) := by rw [hw2]; exact FK.out.putH_o (Nat.le_refl _) h
    clear hw2
    clear x0_0 x0_1 x0_2 x0_3 x0_4 x0_5 x0_6 x0_7 x0_8 x0_9 x0_10 x0_11 x1_0 x1_1 x1_2 x1_3 x1_4 x1_5 x2_0 x2_1 x2_2 x3_0 x3_1 x3_2
    obtain ⟨x0_0, x0_1, x0_2, x0_3, x0_4, x0_5, x0_6, x0_7, x0_8, x0_9, x0_10, x0_11⟩ := F0.out
    obtain ⟨x1_0, x1_1, x1_2, x1_3, x1_4, x1_5, y1_0, y1_1, y1_2, y1_3, y1_4, y1_5⟩ := F1.out
    obtain ⟨x2_0, x2_1, x2_2, y2_0, y2_1, y2_2⟩ := F2.out
    obtain ⟨x3_0, x3_1, x3_2, y3_0, y3_1, y3_2⟩ := F3.out
    refine hK.out _ _ (by (try dsimp only); first | exact ⟨x0_0, x0_1, x0_2, x0_3, x0_4, x0_5, x0_6, x0_7, x0_8, x0_9, x0_10, x0_11, x1_0, x1_1, x1_2, x1_3, x1_4, x1_5, x2_0, x2_1, x2_2, x3_0, x3_1, x3_2⟩ | go_keep) (fun hHeld => ?_)
    clear hK K
    try simp only [Act.put, List.getElem_toArray, List.getElem_cons_succ, List.getElem_cons_zero, List.setIfInBounds_toArray, List.set_cons_zero, List.set_cons_succ]
    refine wpAnyH_ready (rs := [33]) (by kernel_rfl) (by simp) ?_
    refine (AllReadyH.cons rfl (fun K hK => ?_) AllReadyH.nil)
    obtain ⟨r0, r1, r2, r3, r4, r5, s0, s1, s2, s3, s4, s5⟩ := G1.out
    go_simp
    obtain ⟨v_22, hw2⟩ : ∃ v_22, v_22 = put6 v_21 (w.heap.size + 1) s := ⟨_, rfl⟩
    change K _ (put6 v_21 (w.heap.size + 1) s)
    rw [← hw2]
    clear r0 r1 r2 r3 r4 r5 s0 s1 s2 s3 s4 s5
    replace F0 : Hid (HAt v_22 b1 h) := by rw [hw2]; exact F0.out.put6_o (by omega) s
    replace F1 : Hid (SW v_22 b2 s) := by rw [hw2]; exact F1.out.put6_o (by omega) s
    replace F2 : Hid (XW v_22 b3 x) := by rw [hw2]; exact F2.out.put6_o (by omega) s
    replace F3 : Hid (XW v_22 b4 y) := by rw [hw2]; exact F3.out.put6_o (by omega) s
    replace G0 : Hid (HW v_22 w.heap.size h) := by rw [hw2]; exact G0.out.put6_o (by omega) s
    replace G1 : Hid (SW v_22 (w.heap.size + 1) s) := by rw [hw2]; exact G1.out.put s
    replace G2 : Hid (XW v_22 (w.heap.size + 2) (⟨0, false, false⟩ : Cm)) := by rw [hw2]; exact G2.out.put6_o (by omega) s
    replace G3 : Hid (XW v_22 (w.heap.size + 3) (⟨0, false, false⟩ : Cm)) := by rw [hw2]; exact G3.out.put6_o (by omega) s
    replace FK : Hid (Keeps sb w v_22) := by rw [hw2]; exact FK.out.put6_o (by omega) s
    clear hw2
    clear x0_0 x0_1 x0_2 x0_3 x0_4 x0_5 x0_6 x0_7 x0_8 x0_9 x0_10 x0_11 x1_0 x1_1 x1_2 x1_3 x1_4 x1_5 x2_0 x2_1 x2_2 x3_0 x3_1 x3_2
    obtain ⟨x0_0, x0_1, x0_2, x0_3, x0_4, x0_5, x0_6, x0_7, x0_8, x0_9, x0_10, x0_11⟩ := F0.out
    obtain ⟨x1_0, x1_1, x1_2, x1_3, x1_4, x1_5, y1_0, y1_1, y1_2, y1_3, y1_4, y1_5⟩ := F1.out
    obtain ⟨x2_0, x2_1, x2_2, y2_0, y2_1, y2_2⟩ := F2.out
    obtain ⟨x3_0, x3_1, x3_2, y3_0, y3_1, y3_2⟩ := F3.out
    refine hK.out _ _ (by (try dsimp only); first | exact ⟨x0_0, x0_1, x0_2, x0_3, x0_4, x0_5, x0_6, x0_7, x0_8, x0_9, x0_10, x0_11, x1_0, x1_1, x1_2, x1_3, x1_4, x1_5, x2_0, x2_1, x2_2, x3_0, x3_1, x3_2⟩ | go_keep) (fun hHeld => ?_)
    clear hK K
    try simp only [Act.put, List.getElem_toArray, List.getElem_cons_succ, List.getElem_cons_zero, List.setIfInBounds_toArray, List.set_cons_zero, List.set_cons_succ]
    refine wpAnyH_ready (rs := [34]) (by kernel_rfl) (by simp) ?_
    refine (AllReadyH.cons rfl (fun K hK => ?_) AllReadyH.nil)
    obtain ⟨j0, j1, j2, q0, q1, q2⟩ := G2.out
    try dsimp only at j0 j1 j2
    go_simp
    obtain ⟨v_23, hw2⟩ : ∃ v_23, v_23 = putX v_22 (w.heap.size + 2) x := ⟨_, rfl⟩
    change K _ (putX v_22 (w.heap.size + 2) x)
    rw [← hw2]
    clear j0 j1 j2 q0 q1 q2
    replace F0 : Hid (HAt v_23 b1 h) := by rw [hw2]; exact F0.out.putX_o (by omega) x
    replace F1 : Hid (SW v_23 b2 s) := by rw [hw2]; exact F1.out.putX_o (by omega) x
    replace F2 : Hid (XW v_23 b3 x) := by rw [hw2]; exact F2.out.putX_o (by omega) x
    replace F3 : Hid (XW v_23 b4 y) := by rw [hw2]; exact F3.out.putX_o (by omega) x
    replace G0 : Hid (HW v_23 w.heap.size h) := by rw [hw2]; exact G0.out.putX_o (by omega) x
    replace G1 : Hid (SW v_23 (w.heap.size + 1) s) := by rw [hw2]; exact G1.out.putX_o (by omega) x
    replace G2 : Hid (XW v_23 (w.heap.size + 2) x) := by rw [hw2]; exact G2.out.put x
    replace G3 : Hid (XW v_23 (w.heap.size + 3) (⟨0, false, false⟩ : Cm)) := by rw [hw2]; exact G3.out.putX_o (by omega) x
    replace FK : Hid (Keeps sb w v_23) := by rw [hw2]; exact FK.out.putX (by omega) x
    clear hw2
    clear x0_0 x0_1 x0_2 x0_3 x0_4 x0_5 x0_6 x0_7 x0_8 x0_9 x0_10 x0_11 x1_0 x1_1 x1_2 x1_3 x1_4 x1_5 x2_0 x2_1 x2_2 x3_0 x3_1 x3_2
    obtain ⟨x0_0, x0_1, x0_2, x0_3, x0_4, x0_5, x0_6, x0_7, x0_8, x0_9, x0_10, x0_11⟩ := F0.out
    obtain ⟨x1_0, x1_1, x1_2, x1_3, x1_4, x1_5, y1_0, y1_1, y1_2, y1_3, y1_4, y1_5⟩ := F1.out
    obtain ⟨x2_0, x2_1, x2_2, y2_0, y2_1, y2_2⟩ := F2.out
    obtain ⟨x3_0, x3_1, x3_2, y3_0, y3_1, y3_2⟩ := F3.out
    refine hK.out _ _ (by (try dsimp only); first | exact ⟨x0_0, x0_1, x0_2, x0_3, x0_4, x0_5, x0_6, x0_7, x0_8, x0_9, x0_10, x0_11, x1_0, x1_1, x1_2, x1_3, x1_4, x1_5, x2_0, x2_1, x2_2, x3_0, x3_1, x3_2⟩ | go_keep) (fun hHeld => ?_)
    clear hK K
    try simp only [Act.put, List.getElem_toArray, List.getElem_cons_succ, List.getElem_cons_zero, List.setIfInBounds_toArray, List.set_cons_zero, List.set_cons_succ]
    refine wpAnyH_ready (rs := [35]) (by kernel_rfl) (by simp) ?_
    refine (AllReadyH.cons rfl (fun K hK => ?_) AllReadyH.nil)
    obtain ⟨i0, i1, i2, p0, p1, p2⟩ := G3.out
    try dsimp only at i0 i1 i2
    go_simp
    obtain ⟨v_24, hw2⟩ : ∃ v_24, v_24 = putX v_23 (w.heap.size + 3) y := ⟨_, rfl⟩
    change K _ (putX v_23 (w.heap.size + 3) y)
    rw [← hw2]
    clear i0 i1 i2 p0 p1 p2
    replace F0 : Hid (HAt v_24 b1 h) := by rw [hw2]; exact F0.out.putX_o (by omega) y
    replace F1 : Hid (SW v_24 b2 s) := by rw [hw2]; exact F1.out.putX_o (by omega) y
    replace F2 : Hid (XW v_24 b3 x) := by rw [hw2]; exact F2.out.putX_o (by omega) y
    replace F3 : Hid (XW v_24 b4 y) := by rw [hw2]; exact F3.out.putX_o (by omega) y
    replace G0 : Hid (HW v_24 w.heap.size h) := by rw [hw2]; exact G0.out.putX_o (by omega) y
    replace G1 : Hid (SW v_24 (w.heap.size + 1) s) := by rw [hw2]; exact G1.out.putX_o (by omega) y
    replace G2 : Hid (XW v_24 (w.heap.size + 2) x) := by rw [hw2]; exact G2.out.putX_o (by omega) y
    replace G3 : Hid (XW v_24 (w.heap.size + 3) y) := by rw [hw2]; exact G3.out.put y
    replace FK : Hid (Keeps sb w v_24) := by rw [hw2]; exact FK.out.putX (by omega) y
    clear hw2
    clear x0_0 x0_1 x0_2 x0_3 x0_4 x0_5 x0_6 x0_7 x0_8 x0_9 x0_10 x0_11 x1_0 x1_1 x1_2 x1_3 x1_4 x1_5 x2_0 x2_1 x2_2 x3_0 x3_1 x3_2
    obtain ⟨x0_0, x0_1, x0_2, x0_3, x0_4, x0_5, x0_6, x0_7, x0_8, x0_9, x0_10, x0_11⟩ := F0.out
    obtain ⟨x1_0, x1_1, x1_2, x1_3, x1_4, x1_5, y1_0, y1_1, y1_2, y1_3, y1_4, y1_5⟩ := F1.out
    obtain ⟨x2_0, x2_1, x2_2, y2_0, y2_1, y2_2⟩ := F2.out
    obtain ⟨x3_0, x3_1, x3_2, y3_0, y3_1, y3_2⟩ := F3.out
    refine hK.out _ _ (by (try dsimp only); first | exact ⟨x0_0, x0_1, x0_2, x0_3, x0_4, x0_5, x0_6, x0_7, x0_8, x0_9, x0_10, x0_11, x1_0, x1_1, x1_2, x1_3, x1_4, x1_5, x2_0, x2_1, x2_2, x3_0, x3_1, x3_2⟩ | go_keep) (fun hHeld => ?_)
    clear hK K
    try simp only [Act.put, List.getElem_toArray, List.getElem_cons_succ, List.getElem_cons_zero, List.setIfInBounds_toArray, List.set_cons_zero, List.set_cons_succ]
    refine tkz 36 rfl ?_
    refine tkz 37 rfl ?_
    refine wpAnyH_done (by kernel_rfl) ?_ _
    obtain ⟨d0, d1, d2, d3, d4, d5, d6, d7, d8, d9, d10, d11, e0, e1, e2, e3, e4, e5, e6, e7, e8, e9, e10, e11⟩ := G0.out
    obtain ⟨k0, k1, k2, k3, k4, k5, -, -, -, -, -, -⟩ := G1.out
    obtain ⟨j0, j1, j2, -, -, -⟩ := G2.out
    obtain ⟨i0, i1, i2, -, -, -⟩ := G3.out
    go_wp2_with fail
    exact bodyPost_ret (v := .tuple #[.agg #[.int .i64 h.fl, .int .i64 h.gp, .int .i64 h.ln, .int .i64 h.rf, .int .i64 h.sp, .int .i64 h.pu, .int .i64 h.br, .int .i64 h.dr, .int .i64 h.lv, .int .i64 h.dO, .int .i64 h.ld, .int .i64 h.qu], .agg #[.int .i64 s.lo.pos, .int .i64 s.lo.vel, .int .i64 s.lo.door, .int .i64 s.up.pos, .int .i64 s.up.vel, .int .i64 s.up.door], .agg #[.int .i64 x.push, .bool x.brk, .bool x.opn], .agg #[.int .i64 y.push, .bool y.brk, .bool y.opn], .int .i64 dl, .int .i64 du]) (by simp [results, Try.results13, go_sem, d0, d1, d2, d3, d4, d5, d6, d7, d8, d9, d10, d11, k0, k1, k2, k3, k4, k5, j0, j1, j2, i0, i1, i2]) rfl ⟨h, s, x, y, dl, du, rfl, FK.out.below (by omega) (Nat.le_refl _)⟩
end Go.Proofs.Ytclfdfcakmgffaa
