/-
  The house, the car and the command that the bytes draw.
-/
import Derived.Test.YtclfdfcakmgffaaCarY
import Derived.Test.YtclfdfcakmgffaaDrawL
import Derived.Test.YtclfdfcakmgffaaGuardY
import Derived.Test.YtclfdfcakmgffaaAt
namespace Go.Proofs.Ytclfdfcakmgffaa
open Go.RowKit Pl
set_option linter.unusedSimpArgs false
set_option linter.unusedVariables false

theorem codeIn_monoW {w : World} {B C : Nat} {a : Option Addr} {len : Nat} (h : CodeIn w B a len) (hB : B ≤ C) : CodeIn w C a len := by
  obtain ⟨h1, h2⟩ := h
  refine ⟨h1, ?_⟩
  rcases h2 with h2 | ⟨b, off, e, hb, r⟩
  · exact Or.inl h2
  · exact Or.inr ⟨b, off, e, Nat.lt_of_lt_of_le hb hB, r⟩
set_option maxRecDepth 20000 in
set_option maxHeartbeats 16000000 in
theorem l5Worst_any (a : Option Addr) (len cap : Nat) (w : World) (hc : CodeIn w w.heap.size a len) :
    Calls Try.prog 21 #[.slice a len cap] w fun e w' => ∃ (h : Hs) (c : Cs) (x : Cm), e = .returned (.tuple #[.agg #[.int .i64 h.fl, .int .i64 h.gp, .int .i64 h.ln, .int .i64 h.rf, .int .i64 h.sp, .int .i64 h.pu, .int .i64 h.br, .int .i64 h.dr, .int .i64 h.lv, .int .i64 h.dO, .int .i64 h.ld, .int .i64 h.qu], .agg #[.int .i64 c.pos, .int .i64 c.vel, .int .i64 c.door], .agg #[.int .i64 x.push, .bool x.brk, .bool x.opn]]) ∧ Below w.heap.size w w' := by
  obtain ⟨W0, hW0⟩ : ∃ W0, W0 = (((w.alloc (.cells #[.int .i64 0, .int .i64 0, .int .i64 0, .int .i64 0, .int .i64 0, .int .i64 0, .int .i64 0, .int .i64 0, .int .i64 0, .int .i64 0, .int .i64 0, .int .i64 0] 25)).alloc (.cells #[.int .i64 0, .int .i64 0, .int .i64 0] 27)).alloc (.cells #[.int .i64 0, .bool false, .bool false] 29)) := ⟨_, rfl⟩
  obtain ⟨sb, hsb⟩ : ∃ sb, sb = W0.heap.size := ⟨_, rfl⟩
  have hsz : w.heap.size + 2 < sb := by rw [hsb, hW0]; simp
  have HC : Hid (CodeIn W0 w.heap.size a len) := by rw [hW0]; exact hc.keep fun b off _ hb => (World.cell?_alloc_past _ _ _ (by simp; omega)).trans ((World.cell?_alloc_past _ _ _ (by simp; omega)).trans (World.cell?_alloc_past _ _ _ hb))
  have G0 : Hid (HW W0 w.heap.size (⟨0, 0, 0, 0, 0, 0, 0, 0, 0, 0, 0, 0⟩ : Hs)) := by rw [hW0]; exact ((HW.new w (⟨0, 0, 0, 0, 0, 0, 0, 0, 0, 0, 0, 0⟩ : Hs) _).alloc _).alloc _
  have G1 : Hid (R3 W0 (w.heap.size + 1)) := by rw [hW0]; exact (R3.at_ _ _ _ (by simp)).alloc _
  have G2 : Hid (XW W0 (w.heap.size + 2) (⟨0, false, false⟩ : Cm)) := by rw [hW0]; exact XW.at_ _ (⟨0, false, false⟩ : Cm) _ _ (by simp)
  have FK : Hid (Keeps sb w W0) := by rw [hW0]; exact (((Keeps.refl _ _).alloc _).alloc _).alloc _
  have HW0 : Hid (W0 = (((w.alloc (.cells #[.int .i64 0, .int .i64 0, .int .i64 0, .int .i64 0, .int .i64 0, .int .i64 0, .int .i64 0, .int .i64 0, .int .i64 0, .int .i64 0, .int .i64 0, .int .i64 0] 25)).alloc (.cells #[.int .i64 0, .int .i64 0, .int .i64 0] 27)).alloc (.cells #[.int .i64 0, .bool false, .bool false] 29))) := hW0
  have HSB : Hid (sb = W0.heap.size) := hsb
  clear hW0 hsb hc
  go_enter Try.func21, Try.ntmps21
  go_wp2_with fail
  rw [← HW0.out]
  clear HW0
  refine (l1Source_t w.heap.size a len cap _ (by have := HSB.out; omega) HC.out).mono ?_
  rw [← HSB.out]
  rintro e w1 ⟨rfl, hs, hk⟩
  clear HSB
  have G0 : Hid (HW w1 w.heap.size (⟨0, 0, 0, 0, 0, 0, 0, 0, 0, 0, 0, 0⟩ : Hs)) := G0.out.keeps hk (by omega)
  have G1 : Hid (R3 w1 (w.heap.size + 1)) := G1.out.keeps hk (by omega)
  have G2 : Hid (XW w1 (w.heap.size + 2) (⟨0, false, false⟩ : Cm)) := G2.out.keeps hk (by omega)
  have FS : Hid (SrcT w1 sb w.heap.size a len cap (0)) := hs
  have FK : Hid (Keeps sb w w1) := FK.out.trans hk
  clear hs hk
  go_wp2_with fail
  refine (l2House_t sb _ a len cap _ _ FS.out (by omega)).mono ?_
  rintro e w2 ⟨h, rfl, hsm, hs, hk⟩
  have HO : Hid h.Ok := hsm.ok
  have r1_ := hsm.dr1; have r2_ := hsm.dr2
  have el1 : IntKind.i64.wrap (-h.dr) = -h.dr := IntWalk.i64_in _ (by omega)
  have el2 : IntKind.i64.wrap (h.dr + 1) = h.dr + 1 := IntWalk.i64_in _ (by omega)
  clear hsm
  have G0 : Hid (HW w2 w.heap.size (⟨0, 0, 0, 0, 0, 0, 0, 0, 0, 0, 0, 0⟩ : Hs)) := G0.out.keeps hk (by omega)
  have G1 : Hid (R3 w2 (w.heap.size + 1)) := G1.out.keeps hk (by omega)
  have G2 : Hid (XW w2 (w.heap.size + 2) (⟨0, false, false⟩ : Cm)) := G2.out.keeps hk (by omega)
  have FS : Hid (SrcT w2 sb w.heap.size a len cap (0 + 40)) := hs
  have FK : Hid (Keeps sb w w2) := FK.out.trans hk
  clear hs hk
  go_wp2_with fail
  obtain ⟨b1, hb1⟩ : ∃ b1, b1 = w2.heap.size := ⟨_, rfl⟩
  obtain ⟨w3, hw3⟩ : ∃ w3, w3 = w2.alloc (.cells #[.int .i64 h.fl, .int .i64 h.gp, .int .i64 h.ln, .int .i64 h.rf, .int .i64 h.sp, .int .i64 h.pu, .int .i64 h.br, .int .i64 h.dr, .int .i64 h.lv, .int .i64 h.dO, .int .i64 h.ld, .int .i64 h.qu] 25) := ⟨_, rfl⟩
  have lb1G0 := G0.out.lt
  rw [← hb1] at lb1G0
  have lb1G1 := G1.out.lt
  rw [← hb1] at lb1G1
  have lb1G2 := G2.out.lt
  rw [← hb1] at lb1G2
  have lb1FS := FS.out.lt
  rw [← hb1] at lb1FS
  have G0 : Hid (HW w3 w.heap.size (⟨0, 0, 0, 0, 0, 0, 0, 0, 0, 0, 0, 0⟩ : Hs)) := by rw [hw3]; exact G0.out.alloc _
  have G1 : Hid (R3 w3 (w.heap.size + 1)) := by rw [hw3]; exact G1.out.alloc _
  have G2 : Hid (XW w3 (w.heap.size + 2) (⟨0, false, false⟩ : Cm)) := by rw [hw3]; exact G2.out.alloc _
  have FS : Hid (SrcT w3 sb w.heap.size a len cap (0 + 40)) := by rw [hw3]; exact FS.out.alloc _
  have FK : Hid (Keeps sb w w3) := by rw [hw3]; exact FK.out.alloc _
  have F0 : Hid (HW w3 b1 h) := by rw [hw3, hb1]; exact HW.new w2 h _
  rw [← hw3, ← hb1]
  clear hw3 hb1
  refine (l3DrawCar_t h HO.out sb _ a len cap _ _ FS.out (by omega)).mono ?_
  rintro e w4 ⟨g, rfl, hs, hk⟩
  have G0 : Hid (HW w4 w.heap.size (⟨0, 0, 0, 0, 0, 0, 0, 0, 0, 0, 0, 0⟩ : Hs)) := G0.out.keeps hk (by omega)
  have G1 : Hid (R3 w4 (w.heap.size + 1)) := G1.out.keeps hk (by omega)
  have G2 : Hid (XW w4 (w.heap.size + 2) (⟨0, false, false⟩ : Cm)) := G2.out.keeps hk (by omega)
  have F0 : Hid (HW w4 b1 h) := F0.out.keeps hk (by omega)
  have FS : Hid (SrcT w4 sb w.heap.size a len cap (0 + 40 + 40)) := hs
  have FK : Hid (Keeps sb w w4) := FK.out.trans hk
  clear hs hk
  go_upto_region 4 with fail
  obtain ⟨b2, hb2⟩ : ∃ b2, b2 = w4.heap.size := ⟨_, rfl⟩
  obtain ⟨w5, hw5⟩ : ∃ w5, w5 = w4.alloc (.cells #[.int .i64 g.pos, .int .i64 g.vel, .int .i64 g.door] 27) := ⟨_, rfl⟩
  have lb2G0 := G0.out.lt
  rw [← hb2] at lb2G0
  have lb2G1 := G1.out.lt
  rw [← hb2] at lb2G1
  have lb2G2 := G2.out.lt
  rw [← hb2] at lb2G2
  have lb2F0 := F0.out.lt
  rw [← hb2] at lb2F0
  have lb2FS := FS.out.lt
  rw [← hb2] at lb2FS
  have G0 : Hid (HW w5 w.heap.size (⟨0, 0, 0, 0, 0, 0, 0, 0, 0, 0, 0, 0⟩ : Hs)) := by rw [hw5]; exact G0.out.alloc _
  have G1 : Hid (R3 w5 (w.heap.size + 1)) := by rw [hw5]; exact G1.out.alloc _
  have G2 : Hid (XW w5 (w.heap.size + 2) (⟨0, false, false⟩ : Cm)) := by rw [hw5]; exact G2.out.alloc _
  have F0 : Hid (HW w5 b1 h) := by rw [hw5]; exact F0.out.alloc _
  have FS : Hid (SrcT w5 sb w.heap.size a len cap (0 + 40 + 40)) := by rw [hw5]; exact FS.out.alloc _
  have FK : Hid (Keeps sb w w5) := by rw [hw5]; exact FK.out.alloc _
  have F1 : Hid (CW w5 b2 g) := by rw [hw5, hb2]; exact CW.at_ w4 g _ _ rfl
  rw [← hw5, ← hb2]
  clear hw5 hb2
  have F0 : Hid (HAt w5 b1 h) := F0.out.hat
  have F0 : Hid (HAt w5.drew b1 h) := F0.out.below (Below.refl _ _).drew F0.out.lt
  have F1 : Hid (CW w5.drew b2 g) := F1.out.below (Below.refl _ _).drew F1.out.lt
  have G0 : Hid (HW w5.drew w.heap.size (⟨0, 0, 0, 0, 0, 0, 0, 0, 0, 0, 0, 0⟩ : Hs)) := G0.out.below (Below.refl _ _).drew G0.out.lt
  have G1 : Hid (R3 w5.drew (w.heap.size + 1)) := G1.out.below (Below.refl _ _).drew G1.out.lt
  have G2 : Hid (XW w5.drew (w.heap.size + 2) (⟨0, false, false⟩ : Cm)) := G2.out.below (Below.refl _ _).drew G2.out.lt
  have FK : Hid (Keeps sb w w5.drew) := FK.out.of_below (Below.refl _ _).drew
  have FS : Hid (SrcT w5.drew sb w.heap.size a len cap (0 + 40 + 40)) := FS.out.drew
  obtain ⟨x0_0, x0_1, x0_2, x0_3, x0_4, x0_5, x0_6, x0_7, x0_8, x0_9, x0_10, x0_11⟩ := F0.out
  obtain ⟨x1_0, x1_1, x1_2, y1_0, y1_1, y1_2⟩ := F1.out
  refine wp_region_held_drew (S := (fun w'' => w''.cell? ⟨b1, 0, none⟩ = some (.int .i64 h.fl) ∧ w''.cell? ⟨b1, 1, none⟩ = some (.int .i64 h.gp) ∧ w''.cell? ⟨b1, 2, none⟩ = some (.int .i64 h.ln) ∧ w''.cell? ⟨b1, 3, none⟩ = some (.int .i64 h.rf) ∧ w''.cell? ⟨b1, 4, none⟩ = some (.int .i64 h.sp) ∧ w''.cell? ⟨b1, 5, none⟩ = some (.int .i64 h.pu) ∧ w''.cell? ⟨b1, 6, none⟩ = some (.int .i64 h.br) ∧ w''.cell? ⟨b1, 7, none⟩ = some (.int .i64 h.dr) ∧ w''.cell? ⟨b1, 8, none⟩ = some (.int .i64 h.lv) ∧ w''.cell? ⟨b1, 9, none⟩ = some (.int .i64 h.dO) ∧ w''.cell? ⟨b1, 10, none⟩ = some (.int .i64 h.ld) ∧ w''.cell? ⟨b1, 11, none⟩ = some (.int .i64 h.qu) ∧ w''.cell? ⟨b2, 0, none⟩ = some (.int .i64 g.pos) ∧ w''.cell? ⟨b2, 1, none⟩ = some (.int .i64 g.vel) ∧ w''.cell? ⟨b2, 2, none⟩ = some (.int .i64 g.door))) (by kernel_rfl) (by (try dsimp only); first | exact ⟨x0_0, x0_1, x0_2, x0_3, x0_4, x0_5, x0_6, x0_7, x0_8, x0_9, x0_10, x0_11, x1_0, x1_1, x1_2⟩ | go_keep) (fun hHeld => ?_)
  obtain ⟨v_1, hw1⟩ : ∃ v_1, v_1 = w5.drew := ⟨_, rfl⟩
  have F0 : Hid (HAt v_1 b1 h) := by rw [hw1]; exact F0.out
  have F1 : Hid (CW v_1 b2 g) := by rw [hw1]; exact F1.out
  have G0 : Hid (HW v_1 w.heap.size (⟨0, 0, 0, 0, 0, 0, 0, 0, 0, 0, 0, 0⟩ : Hs)) := by rw [hw1]; exact G0.out
  have G1 : Hid (R3 v_1 (w.heap.size + 1)) := by rw [hw1]; exact G1.out
  have G2 : Hid (XW v_1 (w.heap.size + 2) (⟨0, false, false⟩ : Cm)) := by rw [hw1]; exact G2.out
  have FK : Hid (Keeps sb w v_1) := by rw [hw1]; exact FK.out
  have FS : Hid (SrcT v_1 sb w.heap.size a len cap (0 + 40 + 40)) := by rw [hw1]; exact FS.out
  rw [← hw1] at hHeld ⊢
  clear hw1
  obtain ⟨x0_0, x0_1, x0_2, x0_3, x0_4, x0_5, x0_6, x0_7, x0_8, x0_9, x0_10, x0_11⟩ := F0.out
  obtain ⟨x1_0, x1_1, x1_2, y1_0, y1_1, y1_2⟩ := F1.out
  refine tkz 0 rfl ?_
  refine tkz 1 rfl ?_
  refine tkz 2 rfl ?_
  refine tkz 3 rfl ?_
  refine wpAnyH_ready (rs := [4]) (by kernel_rfl) (by simp) ?_
  refine (AllReadyH.cons rfl (fun K hK => ?_) AllReadyH.nil)
  go_simp
  refine (l3Command_t h HO.out sb _ a len cap _ _ FS.out (by omega)).mono ?_
  rintro e v_2 ⟨x, rfl, hs, hk⟩
  have F0 : Hid (HAt v_2 b1 h) := F0.out.keeps hk (by omega)
  have F1 : Hid (CW v_2 b2 g) := F1.out.keeps hk (by omega)
  have G0 : Hid (HW v_2 w.heap.size (⟨0, 0, 0, 0, 0, 0, 0, 0, 0, 0, 0, 0⟩ : Hs)) := G0.out.keeps hk (by omega)
  have G1 : Hid (R3 v_2 (w.heap.size + 1)) := G1.out.keeps hk (by omega)
  have G2 : Hid (XW v_2 (w.heap.size + 2) (⟨0, false, false⟩ : Cm)) := G2.out.keeps hk (by omega)
  have FK : Hid (Keeps sb w v_2) := FK.out.trans hk
  have FS : Hid (SrcT v_2 sb w.heap.size a len cap ((0 + 40 + 40) + 10)) := hs
  clear hs hk
  obtain ⟨x0_0, x0_1, x0_2, x0_3, x0_4, x0_5, x0_6, x0_7, x0_8, x0_9, x0_10, x0_11⟩ := F0.out
  obtain ⟨x1_0, x1_1, x1_2, y1_0, y1_1, y1_2⟩ := F1.out
  try dsimp only
  refine hK.out _ _ (by (try dsimp only); first | exact ⟨x0_0, x0_1, x0_2, x0_3, x0_4, x0_5, x0_6, x0_7, x0_8, x0_9, x0_10, x0_11, x1_0, x1_1, x1_2⟩ | go_keep) (fun hHeld => ?_)
  clear hK K
  try simp only [Act.put, List.getElem_toArray, List.getElem_cons_succ, List.getElem_cons_zero, List.setIfInBounds_toArray, List.set_cons_zero, List.set_cons_succ]
  refine wpAnyH_ready (rs := [5]) (by kernel_rfl) (by simp) ?_
  refine (AllReadyH.cons rfl (fun K hK => ?_) AllReadyH.nil)
  obtain ⟨d0, d1, d2, d3, d4, d5, d6, d7, d8, d9, d10, d11, e0, e1, e2, e3, e4, e5, e6, e7, e8, e9, e10, e11⟩ := G0.out
  try dsimp only at d0 d1 d2 d3 d4 d5 d6 d7 d8 d9 d10 d11
  go_simp
  obtain ⟨v_3, hw2⟩ : ∃ v_3, v_3 = putH v_2 w.heap.size h := ⟨_, rfl⟩
  change K _ (putH v_2 w.heap.size h)
  rw [← hw2]
  clear d0 e0 d1 e1 d2 e2 d3 e3 d4 e4 d5 e5 d6 e6 d7 e7 d8 e8 d9 e9 d10 e10 d11 e11
  have F0 : Hid (HAt v_3 b1 h) := by rw [hw2]; exact F0.out.put_h (by omega) h
  have F1 : Hid (CW v_3 b2 g) := by rw [hw2]; exact F1.out.put_h (by omega) h
  have G0 : Hid (HW v_3 w.heap.size h) := by rw [hw2]; exact G0.out.put h
  have G1 : Hid (R3 v_3 (w.heap.size + 1)) := by rw [hw2]; exact R3.put_h G1.out h
  have G2 : Hid (XW v_3 (w.heap.size + 2) (⟨0, false, false⟩ : Cm)) := by rw [hw2]; exact G2.out.put_h (by omega) h
  have FK : Hid (Keeps sb w v_3) := by rw [hw2]; exact FK.out.put (Nat.le_refl _) h
  clear hw2
  obtain ⟨x0_0, x0_1, x0_2, x0_3, x0_4, x0_5, x0_6, x0_7, x0_8, x0_9, x0_10, x0_11⟩ := F0.out
  obtain ⟨x1_0, x1_1, x1_2, y1_0, y1_1, y1_2⟩ := F1.out
  refine hK.out _ _ (by (try dsimp only); first | exact ⟨x0_0, x0_1, x0_2, x0_3, x0_4, x0_5, x0_6, x0_7, x0_8, x0_9, x0_10, x0_11, x1_0, x1_1, x1_2⟩ | go_keep) (fun hHeld => ?_)
  clear hK K
  try simp only [Act.put, List.getElem_toArray, List.getElem_cons_succ, List.getElem_cons_zero, List.setIfInBounds_toArray, List.set_cons_zero, List.set_cons_succ]
  refine wpAnyH_ready (rs := [6]) (by kernel_rfl) (by simp) ?_
  refine (AllReadyH.cons rfl (fun K hK => ?_) AllReadyH.nil)
  obtain ⟨r0, r1, r2, s0, s1, s2⟩ := G1.out
  go_simp
  obtain ⟨v_4, hw2⟩ : ∃ v_4, v_4 = put3 v_3 (w.heap.size + 1) g := ⟨_, rfl⟩
  change K _ (put3 v_3 (w.heap.size + 1) g)
  rw [← hw2]
  clear r0 r1 r2 s0 s1 s2
  have F0 : Hid (HAt v_4 b1 h) := by rw [hw2]; exact F0.out.put3_other (by omega) g
  have F1 : Hid (CW v_4 b2 g) := by rw [hw2]; exact F1.out.put_other (by omega) g
  have G0 : Hid (HW v_4 w.heap.size h) := by rw [hw2]; exact G0.out.below (below_put3 (Below.refl _ _) (Nat.le_refl _) g) (by omega)
  have G1 : Hid (CW v_4 (w.heap.size + 1) g) := by rw [hw2]; exact G1.out.cw.put g
  have G2 : Hid (XW v_4 (w.heap.size + 2) (⟨0, false, false⟩ : Cm)) := by rw [hw2]; exact G2.out.put3_other (by omega) g
  have FK : Hid (Keeps sb w v_4) := by rw [hw2]; exact FK.out.put3 (by omega) g
  clear hw2
  obtain ⟨x0_0, x0_1, x0_2, x0_3, x0_4, x0_5, x0_6, x0_7, x0_8, x0_9, x0_10, x0_11⟩ := F0.out
  obtain ⟨x1_0, x1_1, x1_2, y1_0, y1_1, y1_2⟩ := F1.out
  refine hK.out _ _ (by (try dsimp only); first | exact ⟨x0_0, x0_1, x0_2, x0_3, x0_4, x0_5, x0_6, x0_7, x0_8, x0_9, x0_10, x0_11, x1_0, x1_1, x1_2⟩ | go_keep) (fun hHeld => ?_)
  clear hK K
  try simp only [Act.put, List.getElem_toArray, List.getElem_cons_succ, List.getElem_cons_zero, List.setIfInBounds_toArray, List.set_cons_zero, List.set_cons_succ]
  refine wpAnyH_ready (rs := [7]) (by kernel_rfl) (by simp) ?_
  refine (AllReadyH.cons rfl (fun K hK => ?_) AllReadyH.nil)
  obtain ⟨r0, r1, r2, s0, s1, s2⟩ := G2.out
  try dsimp only at r0 r1 r2
  go_simp
  obtain ⟨v_5, hw2⟩ : ∃ v_5, v_5 = putX v_4 (w.heap.size + 2) x := ⟨_, rfl⟩
  change K _ (putX v_4 (w.heap.size + 2) x)
  rw [← hw2]
  clear r0 r1 r2 s0 s1 s2
  have F0 : Hid (HAt v_5 b1 h) := by rw [hw2]; exact F0.out.putX_other (by omega) x
  have F1 : Hid (CW v_5 b2 g) := by rw [hw2]; exact F1.out.putX_other (by omega) x
  have G0 : Hid (HW v_5 w.heap.size h) := by rw [hw2]; exact G0.out.below (below_putX (Below.refl _ _) (Nat.le_refl _) x) (by omega)
  have G1 : Hid (CW v_5 (w.heap.size + 1) g) := by rw [hw2]; exact G1.out.putX_other (by omega) x
  have G2 : Hid (XW v_5 (w.heap.size + 2) x) := by rw [hw2]; exact G2.out.put x
  have FK : Hid (Keeps sb w v_5) := by rw [hw2]; exact FK.out.putX (by omega) x
  clear hw2
  obtain ⟨x0_0, x0_1, x0_2, x0_3, x0_4, x0_5, x0_6, x0_7, x0_8, x0_9, x0_10, x0_11⟩ := F0.out
  obtain ⟨x1_0, x1_1, x1_2, y1_0, y1_1, y1_2⟩ := F1.out
  refine hK.out _ _ (by (try dsimp only); first | exact ⟨x0_0, x0_1, x0_2, x0_3, x0_4, x0_5, x0_6, x0_7, x0_8, x0_9, x0_10, x0_11, x1_0, x1_1, x1_2⟩ | go_keep) (fun hHeld => ?_)
  clear hK K
  try simp only [Act.put, List.getElem_toArray, List.getElem_cons_succ, List.getElem_cons_zero, List.setIfInBounds_toArray, List.set_cons_zero, List.set_cons_succ]
  refine wpAnyH_done (by kernel_rfl) ?_ _
  obtain ⟨d0, d1, d2, d3, d4, d5, d6, d7, d8, d9, d10, d11, e0, e1, e2, e3, e4, e5, e6, e7, e8, e9, e10, e11⟩ := G0.out
  obtain ⟨k0, k1, k2, m0, m1, m2⟩ := G1.out
  obtain ⟨j0, j1, j2, i0, i1, i2⟩ := G2.out
  go_wp2_with fail
  exact bodyPost_ret (v := .tuple #[.agg #[.int .i64 h.fl, .int .i64 h.gp, .int .i64 h.ln, .int .i64 h.rf, .int .i64 h.sp, .int .i64 h.pu, .int .i64 h.br, .int .i64 h.dr, .int .i64 h.lv, .int .i64 h.dO, .int .i64 h.ld, .int .i64 h.qu], .agg #[.int .i64 g.pos, .int .i64 g.vel, .int .i64 g.door], .agg #[.int .i64 x.push, .bool x.brk, .bool x.opn]]) (by simp [results, Try.results21, go_sem, d0, d1, d2, d3, d4, d5, d6, d7, d8, d9, d10, d11, k0, k1, k2, j0, j1, j2]) rfl ⟨h, g, x, rfl, FK.out.below (by omega) (Nat.le_refl _)⟩
set_option maxRecDepth 20000 in
set_option maxHeartbeats 16000000 in
theorem DrawWorstHigh_any (a : Option Addr) (len cap : Nat) (w : World) (hc : CodeIn w w.heap.size a len) :
    Calls Try.prog 7 #[.slice a len cap] w fun e w' => ∃ (h : Hs) (g : Cs) (x : Cm), e = .returned (.tuple #[.agg #[.int .i64 h.fl, .int .i64 h.gp, .int .i64 h.ln, .int .i64 h.rf, .int .i64 h.sp, .int .i64 h.pu, .int .i64 h.br, .int .i64 h.dr, .int .i64 h.lv, .int .i64 h.dO, .int .i64 h.ld, .int .i64 h.qu], .agg #[.int .i64 g.pos, .int .i64 g.vel, .int .i64 g.door], .agg #[.int .i64 x.push, .bool x.brk, .bool x.opn]]) ∧ Below w.heap.size w w' := by
  obtain ⟨W0, hW0⟩ : ∃ W0, W0 = (((w.alloc (.cells #[.int .i64 0, .int .i64 0, .int .i64 0, .int .i64 0, .int .i64 0, .int .i64 0, .int .i64 0, .int .i64 0, .int .i64 0, .int .i64 0, .int .i64 0, .int .i64 0] 25)).alloc (.cells #[.int .i64 0, .int .i64 0, .int .i64 0] 27)).alloc (.cells #[.int .i64 0, .bool false, .bool false] 29)) := ⟨_, rfl⟩
  have HB : Hid (Below w.heap.size w W0) := by rw [hW0]; exact (((Below.refl _ _).alloc (Nat.le_refl _) _).alloc (by simp) _).alloc (by simp; omega) _
  have HC : Hid (CodeIn W0 W0.heap.size a len) := codeIn_monoW (hc.keep fun b off _ hb => by rw [hW0]; exact (World.cell?_alloc_past _ _ _ (by simp; omega)).trans ((World.cell?_alloc_past _ _ _ (by simp; omega)).trans (World.cell?_alloc_past _ _ _ hb))) HB.out.size
  have G0 : Hid (HW W0 w.heap.size (⟨0, 0, 0, 0, 0, 0, 0, 0, 0, 0, 0, 0⟩ : Hs)) := by rw [hW0]; exact ((HW.new w (⟨0, 0, 0, 0, 0, 0, 0, 0, 0, 0, 0, 0⟩ : Hs) _).alloc _).alloc _
  have G1 : Hid (R3 W0 (w.heap.size + 1)) := by rw [hW0]; exact (R3.at_ _ _ _ (by simp)).alloc _
  have G2 : Hid (XW W0 (w.heap.size + 2) (⟨0, false, false⟩ : Cm)) := by rw [hW0]; exact XW.at_ _ (⟨0, false, false⟩ : Cm) _ _ (by simp)
  have HW0 : Hid (W0 = (((w.alloc (.cells #[.int .i64 0, .int .i64 0, .int .i64 0, .int .i64 0, .int .i64 0, .int .i64 0, .int .i64 0, .int .i64 0, .int .i64 0, .int .i64 0, .int .i64 0, .int .i64 0] 25)).alloc (.cells #[.int .i64 0, .int .i64 0, .int .i64 0] 27)).alloc (.cells #[.int .i64 0, .bool false, .bool false] 29))) := hW0
  clear hW0 hc
  go_enter Try.func7, Try.ntmps7
  go_wp2_with fail
  rw [← HW0.out]
  clear HW0
  refine (l5Worst_any a len cap _ HC.out).mono ?_
  rintro e w2 ⟨h, g, x, rfl, hb⟩
  have G0 : Hid (HW w2 w.heap.size (⟨0, 0, 0, 0, 0, 0, 0, 0, 0, 0, 0, 0⟩ : Hs)) := G0.out.below hb G0.out.lt
  have G1 : Hid (R3 w2 (w.heap.size + 1)) := G1.out.below hb G1.out.lt
  have G2 : Hid (XW w2 (w.heap.size + 2) (⟨0, false, false⟩ : Cm)) := G2.out.below hb G2.out.lt
  have FB : Hid (Below w.heap.size w w2) := HB.out.trans (hb.mono HB.out.size)
  clear hb HB HC
  obtain ⟨d0, d1, d2, d3, d4, d5, d6, d7, d8, d9, d10, d11, e0, e1, e2, e3, e4, e5, e6, e7, e8, e9, e10, e11⟩ := G0.out
  obtain ⟨r0, r1, r2, s0, s1, s2⟩ := G1.out
  obtain ⟨q0, q1, q2, p0, p1, p2⟩ := G2.out
  try dsimp only at d0 d1 d2 d3 d4 d5 d6 d7 d8 d9 d10 d11 q0 q1 q2
  go_wp2
  change bodyPost _ _ _ _ _ (putX (put3 (putH w2 w.heap.size h) (w.heap.size + 1) g) (w.heap.size + 2) x)
  obtain ⟨Wf, hWf⟩ : ∃ Wf, putX (put3 (putH w2 w.heap.size h) (w.heap.size + 1) g) (w.heap.size + 2) x = Wf := ⟨_, rfl⟩
  have H0 : HW Wf w.heap.size h := hWf ▸ ((G0.out.put h).below (below_put3 (Below.refl _ _) (Nat.le_refl _) g) (by omega)).below (below_putX (Below.refl _ _) (Nat.le_refl _) x) (by omega)
  have H1 : CW Wf (w.heap.size + 1) g := hWf ▸ ((R3.put_h G1.out h).cw.put g).putX_other (by omega) x
  have H2 : XW Wf (w.heap.size + 2) x := hWf ▸ ((G2.out.put_h (by omega) h).put3_other (by omega) g).put x
  have HB : Below w.heap.size w Wf := hWf ▸ below_putX (below_put3 (below_putH FB.out (Nat.le_refl _) h) (by omega) g) (by omega) x
  rw [hWf]
  clear hWf d0 d1 d2 d3 d4 d5 d6 d7 d8 d9 d10 d11 e0 e1 e2 e3 e4 e5 e6 e7 e8 e9 e10 e11 r0 r1 r2 s0 s1 s2 q0 q1 q2 p0 p1 p2
  obtain ⟨d0, d1, d2, d3, d4, d5, d6, d7, d8, d9, d10, d11, -, -, -, -, -, -, -, -, -, -, -, -⟩ := H0
  obtain ⟨k0, k1, k2, -, -, -⟩ := H1
  obtain ⟨j0, j1, j2, -, -, -⟩ := H2
  exact bodyPost_ret (v := .tuple #[.agg #[.int .i64 h.fl, .int .i64 h.gp, .int .i64 h.ln, .int .i64 h.rf, .int .i64 h.sp, .int .i64 h.pu, .int .i64 h.br, .int .i64 h.dr, .int .i64 h.lv, .int .i64 h.dO, .int .i64 h.ld, .int .i64 h.qu], .agg #[.int .i64 g.pos, .int .i64 g.vel, .int .i64 g.door], .agg #[.int .i64 x.push, .bool x.brk, .bool x.opn]]) (by simp [results, Try.results7, go_sem, d0, d1, d2, d3, d4, d5, d6, d7, d8, d9, d10, d11, k0, k1, k2, j0, j1, j2]) rfl (by first | exact ⟨h, g, x, rfl, HB⟩ | exact ⟨⟨h, g, x, rfl⟩, HB⟩)
end Go.Proofs.Ytclfdfcakmgffaa
