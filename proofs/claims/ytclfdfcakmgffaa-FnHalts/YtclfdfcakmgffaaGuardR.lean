/-
  The house and the shaft that the bytes draw.
-/
import Derived.Test.YtclfdfcakmgffaaGuardY
import Derived.Test.YtclfdfcakmgffaaAt
namespace Go.Proofs.Ytclfdfcakmgffaa
open Go.RowKit Pl
set_option linter.unusedSimpArgs false
set_option linter.unusedVariables false

theorem codeIn_mono {w : World} {B C : Nat} {a : Option Addr} {len : Nat} (h : CodeIn w B a len) (hB : B ≤ C) : CodeIn w C a len := by
  obtain ⟨h1, h2⟩ := h
  refine ⟨h1, ?_⟩
  rcases h2 with h2 | ⟨b, off, e, hb, r⟩
  · exact Or.inl h2
  · exact Or.inr ⟨b, off, e, Nat.lt_of_lt_of_le hb hB, r⟩
set_option maxRecDepth 20000 in
set_option maxHeartbeats 16000000 in
theorem l5One_any (a : Option Addr) (len cap : Nat) (w : World) (hc : CodeIn w w.heap.size a len) :
    Calls Try.prog 48 #[.slice a len cap] w fun e w' => ∃ (h : Hs) (s : Sh), e = .returned (.tuple #[.agg #[.int .i64 h.fl, .int .i64 h.gp, .int .i64 h.ln, .int .i64 h.rf, .int .i64 h.sp, .int .i64 h.pu, .int .i64 h.br, .int .i64 h.dr, .int .i64 h.lv, .int .i64 h.dO, .int .i64 h.ld, .int .i64 h.qu], .agg #[.int .i64 s.lo.pos, .int .i64 s.lo.vel, .int .i64 s.lo.door, .int .i64 s.up.pos, .int .i64 s.up.vel, .int .i64 s.up.door]]) ∧ Below w.heap.size w w' := by
  obtain ⟨W0, hW0⟩ : ∃ W0, W0 = ((w.alloc (.cells #[.int .i64 0, .int .i64 0, .int .i64 0, .int .i64 0, .int .i64 0, .int .i64 0, .int .i64 0, .int .i64 0, .int .i64 0, .int .i64 0, .int .i64 0, .int .i64 0] 25)).alloc (.cells #[.int .i64 0, .int .i64 0, .int .i64 0, .int .i64 0, .int .i64 0, .int .i64 0] 40)) := ⟨_, rfl⟩
  obtain ⟨sb, hsb⟩ : ∃ sb, sb = W0.heap.size := ⟨_, rfl⟩
  have hsz : w.heap.size + 1 < sb := by rw [hsb, hW0]; simp
  have HC : Hid (CodeIn W0 w.heap.size a len) := by rw [hW0]; exact hc.keep fun b off _ hb => (World.cell?_alloc_past _ _ _ (by simp; omega)).trans (World.cell?_alloc_past _ _ _ hb)
  have G0 : Hid (HW W0 w.heap.size (⟨0, 0, 0, 0, 0, 0, 0, 0, 0, 0, 0, 0⟩ : Hs)) := by rw [hW0]; exact (HW.new w (⟨0, 0, 0, 0, 0, 0, 0, 0, 0, 0, 0, 0⟩ : Hs) _).alloc _
  have G1 : Hid (R6 W0 (w.heap.size + 1)) := by rw [hW0]; exact R6.at_ _ _ _ (by simp)
  have FK : Hid (Keeps sb w W0) := by rw [hW0]; exact ((Keeps.refl _ _).alloc _).alloc _
  have HW0 : Hid (W0 = ((w.alloc (.cells #[.int .i64 0, .int .i64 0, .int .i64 0, .int .i64 0, .int .i64 0, .int .i64 0, .int .i64 0, .int .i64 0, .int .i64 0, .int .i64 0, .int .i64 0, .int .i64 0] 25)).alloc (.cells #[.int .i64 0, .int .i64 0, .int .i64 0, .int .i64 0, .int .i64 0, .int .i64 0] 40))) := hW0
  have HSB : Hid (sb = W0.heap.size) := hsb
  clear hW0 hsb hc
  go_enter Try.func48, Try.ntmps48
  go_wp2_with fail
  rw [← HW0.out]
  clear HW0
  refine (l1Source_t w.heap.size a len cap _ (by have := HSB.out; omega) HC.out).mono ?_
  rw [← HSB.out]
  rintro e w1 ⟨rfl, hs, hk⟩
  clear HSB
  have G0 : Hid (HW w1 w.heap.size (⟨0, 0, 0, 0, 0, 0, 0, 0, 0, 0, 0, 0⟩ : Hs)) := G0.out.keeps hk (by omega)
  have G1 : Hid (R6 w1 (w.heap.size + 1)) := G1.out.keeps hk (by omega)
  have FS : Hid (SrcT w1 sb w.heap.size a len cap (0)) := hs
  have FK : Hid (Keeps sb w w1) := FK.out.trans hk
  clear hs hk
  go_wp2_with fail
  refine (l5Draw_t sb _ a len cap _ _ FS.out (by omega)).mono ?_
  rintro e w2 ⟨h, s, x, y, rfl, -, hs, hk⟩
  have G0 : Hid (HW w2 w.heap.size (⟨0, 0, 0, 0, 0, 0, 0, 0, 0, 0, 0, 0⟩ : Hs)) := G0.out.keeps hk (by omega)
  have G1 : Hid (R6 w2 (w.heap.size + 1)) := G1.out.keeps hk (by omega)
  have FS : Hid (SrcT w2 sb w.heap.size a len cap (0 + 200)) := hs
  have FK : Hid (Keeps sb w w2) := FK.out.trans hk
  clear hs hk
  go_upto_region 2 with fail
  have lG0 := G0.out.lt
  have lG1 := G1.out.lt
  obtain ⟨w3, hw3⟩ : ∃ w3, w3 = (((w2.alloc (.cells #[.int .i64 h.fl, .int .i64 h.gp, .int .i64 h.ln, .int .i64 h.rf, .int .i64 h.sp, .int .i64 h.pu, .int .i64 h.br, .int .i64 h.dr, .int .i64 h.lv, .int .i64 h.dO, .int .i64 h.ld, .int .i64 h.qu] 25)).alloc (.cells #[.int .i64 s.lo.pos, .int .i64 s.lo.vel, .int .i64 s.lo.door, .int .i64 s.up.pos, .int .i64 s.up.vel, .int .i64 s.up.door] 40)).alloc (.cells #[.int .i64 x.push, .bool x.brk, .bool x.opn] 29)).alloc (.cells #[.int .i64 y.push, .bool y.brk, .bool y.opn] 29) := ⟨_, rfl⟩
  obtain ⟨b1, hb1⟩ : ∃ b1, b1 = w2.heap.size := ⟨_, rfl⟩
  obtain ⟨b2, hb2⟩ : ∃ b2, b2 = w2.heap.size + 1 := ⟨_, rfl⟩
  have l12 : b1 < b2 := by omega
  have F0 : Hid (HAt w3 b1 h) := by rw [hw3]; exact (((HAt.at_ w2 h _ _ hb1).alloc _).alloc _).alloc _
  have F1 : Hid (SW w3 b2 s) := by rw [hw3]; exact ((SW.at_ _ s _ _ (by simp; omega)).alloc _).alloc _
  have G0 : Hid (HW w3 w.heap.size (⟨0, 0, 0, 0, 0, 0, 0, 0, 0, 0, 0, 0⟩ : Hs)) := by rw [hw3]; exact (((G0.out.alloc _).alloc _).alloc _).alloc _
  have G1 : Hid (R6 w3 (w.heap.size + 1)) := by rw [hw3]; exact (((G1.out.alloc _).alloc _).alloc _).alloc _
  have FK : Hid (Keeps sb w w3) := by rw [hw3]; exact (((FK.out.alloc _).alloc _).alloc _).alloc _
  rw [← hb1] at lG0 lG1
  rw [← hw3, ← hb2, ← hb1]
  clear hw3 hb1 hb2 FS
  replace F0 : Hid (HAt w3.drew b1 h) := F0.out.below (Below.refl _ _).drew F0.out.lt
  replace F1 : Hid (SW w3.drew b2 s) := F1.out.below (Below.refl _ _).drew F1.out.lt
  replace G0 : Hid (HW w3.drew w.heap.size (⟨0, 0, 0, 0, 0, 0, 0, 0, 0, 0, 0, 0⟩ : Hs)) := G0.out.below (Below.refl _ _).drew G0.out.lt
  replace G1 : Hid (R6 w3.drew (w.heap.size + 1)) := G1.out.below (Below.refl _ _).drew G1.out.lt
  replace FK : Hid (Keeps sb w w3.drew) := FK.out.of_below (Below.refl _ _).drew
  obtain ⟨x0_0, x0_1, x0_2, x0_3, x0_4, x0_5, x0_6, x0_7, x0_8, x0_9, x0_10, x0_11⟩ := F0.out
  obtain ⟨x1_0, x1_1, x1_2, x1_3, x1_4, x1_5, y1_0, y1_1, y1_2, y1_3, y1_4, y1_5⟩ := F1.out
  refine wp_region_held_drew (S := (fun w'' => w''.cell? ⟨b1, 0, none⟩ = some (.int .i64 h.fl) ∧ w''.cell? ⟨b1, 1, none⟩ = some (.int .i64 h.gp) ∧ w''.cell? ⟨b1, 2, none⟩ = some (.int .i64 h.ln) ∧ w''.cell? ⟨b1, 3, none⟩ = some (.int .i64 h.rf) ∧ w''.cell? ⟨b1, 4, none⟩ = some (.int .i64 h.sp) ∧ w''.cell? ⟨b1, 5, none⟩ = some (.int .i64 h.pu) ∧ w''.cell? ⟨b1, 6, none⟩ = some (.int .i64 h.br) ∧ w''.cell? ⟨b1, 7, none⟩ = some (.int .i64 h.dr) ∧ w''.cell? ⟨b1, 8, none⟩ = some (.int .i64 h.lv) ∧ w''.cell? ⟨b1, 9, none⟩ = some (.int .i64 h.dO) ∧ w''.cell? ⟨b1, 10, none⟩ = some (.int .i64 h.ld) ∧ w''.cell? ⟨b1, 11, none⟩ = some (.int .i64 h.qu) ∧ w''.cell? ⟨b2, 0, none⟩ = some (.int .i64 s.lo.pos) ∧ w''.cell? ⟨b2, 1, none⟩ = some (.int .i64 s.lo.vel) ∧ w''.cell? ⟨b2, 2, none⟩ = some (.int .i64 s.lo.door) ∧ w''.cell? ⟨b2, 3, none⟩ = some (.int .i64 s.up.pos) ∧ w''.cell? ⟨b2, 4, none⟩ = some (.int .i64 s.up.vel) ∧ w''.cell? ⟨b2, 5, none⟩ = some (.int .i64 s.up.door))) (by kernel_rfl) (by (try dsimp only); first | exact ⟨x0_0, x0_1, x0_2, x0_3, x0_4, x0_5, x0_6, x0_7, x0_8, x0_9, x0_10, x0_11, x1_0, x1_1, x1_2, x1_3, x1_4, x1_5⟩ | go_keep) (fun hHeld => ?_)
  obtain ⟨v_1, hw1⟩ : ∃ v_1, v_1 = w3.drew := ⟨_, rfl⟩
  replace F0 : Hid (HAt v_1 b1 h) := by rw [hw1]; exact F0.out
  replace F1 : Hid (SW v_1 b2 s) := by rw [hw1]; exact F1.out
  replace G0 : Hid (HW v_1 w.heap.size (⟨0, 0, 0, 0, 0, 0, 0, 0, 0, 0, 0, 0⟩ : Hs)) := by rw [hw1]; exact G0.out
  replace G1 : Hid (R6 v_1 (w.heap.size + 1)) := by rw [hw1]; exact G1.out
  replace FK : Hid (Keeps sb w v_1) := by rw [hw1]; exact FK.out
  rw [← hw1] at hHeld ⊢
  clear hw1
  clear x0_0 x0_1 x0_2 x0_3 x0_4 x0_5 x0_6 x0_7 x0_8 x0_9 x0_10 x0_11 x1_0 x1_1 x1_2 x1_3 x1_4 x1_5
  obtain ⟨x0_0, x0_1, x0_2, x0_3, x0_4, x0_5, x0_6, x0_7, x0_8, x0_9, x0_10, x0_11⟩ := F0.out
  obtain ⟨x1_0, x1_1, x1_2, x1_3, x1_4, x1_5, y1_0, y1_1, y1_2, y1_3, y1_4, y1_5⟩ := F1.out
  refine tkz 0 rfl ?_
  refine tkz 1 rfl ?_
  refine wpAnyH_ready (rs := [2]) (by kernel_rfl) (by simp) ?_
  refine (AllReadyH.cons rfl (fun K hK => ?_) AllReadyH.nil)
  obtain ⟨d0, d1, d2, d3, d4, d5, d6, d7, d8, d9, d10, d11, e0, e1, e2, e3, e4, e5, e6, e7, e8, e9, e10, e11⟩ := G0.out
  try dsimp only at d0 d1 d2 d3 d4 d5 d6 d7 d8 d9 d10 d11
  go_simp
  obtain ⟨v_2, hw2⟩ : ∃ v_2, v_2 = putH v_1 w.heap.size h := ⟨_, rfl⟩
  change K _ (putH v_1 w.heap.size h)
  rw [← hw2]
  clear d0 d1 d2 d3 d4 d5 d6 d7 d8 d9 d10 d11 e0 e1 e2 e3 e4 e5 e6 e7 e8 e9 e10 e11
  replace F0 : Hid (HAt v_2 b1 h) := by rw [hw2]; exact F0.out.putH_o (by omega) h
  replace F1 : Hid (SW v_2 b2 s) := by rw [hw2]; exact F1.out.putH_o (by omega) h
  replace G0 : Hid (HW v_2 w.heap.size h) := by rw [hw2]; exact G0.out.put h
  replace G1 : Hid (R6 v_2 (w.heap.size + 1)) := by rw [hw2]; exact G1.out.putH_o (by omega) h
  replace FK : Hid (Keeps sb w v_2) := by rw [hw2]; exact FK.out.putH_o (Nat.le_refl _) h
  clear hw2
  clear x0_0 x0_1 x0_2 x0_3 x0_4 x0_5 x0_6 x0_7 x0_8 x0_9 x0_10 x0_11 x1_0 x1_1 x1_2 x1_3 x1_4 x1_5
  obtain ⟨x0_0, x0_1, x0_2, x0_3, x0_4, x0_5, x0_6, x0_7, x0_8, x0_9, x0_10, x0_11⟩ := F0.out
  obtain ⟨x1_0, x1_1, x1_2, x1_3, x1_4, x1_5, y1_0, y1_1, y1_2, y1_3, y1_4, y1_5⟩ := F1.out
  refine hK.out _ _ (by (try dsimp only); first | exact ⟨x0_0, x0_1, x0_2, x0_3, x0_4, x0_5, x0_6, x0_7, x0_8, x0_9, x0_10, x0_11, x1_0, x1_1, x1_2, x1_3, x1_4, x1_5⟩ | go_keep) (fun hHeld => ?_)
  clear hK K
  try simp only [Act.put, List.getElem_toArray, List.getElem_cons_succ, List.getElem_cons_zero, List.setIfInBounds_toArray, List.set_cons_zero, List.set_cons_succ]
  refine wpAnyH_ready (rs := [3]) (by kernel_rfl) (by simp) ?_
  refine (AllReadyH.cons rfl (fun K hK => ?_) AllReadyH.nil)
  obtain ⟨r0, r1, r2, r3, r4, r5, s0, s1, s2, s3, s4, s5⟩ := G1.out
  go_simp
  obtain ⟨v_3, hw2⟩ : ∃ v_3, v_3 = put6 v_2 (w.heap.size + 1) s := ⟨_, rfl⟩
  change K _ (put6 v_2 (w.heap.size + 1) s)
  rw [← hw2]
  clear r0 r1 r2 r3 r4 r5 s0 s1 s2 s3 s4 s5
  replace F0 : Hid (HAt v_3 b1 h) := by rw [hw2]; exact F0.out.put6_o (by omega) s
  replace F1 : Hid (SW v_3 b2 s) := by rw [hw2]; exact F1.out.put6_o (by omega) s
  replace G0 : Hid (HW v_3 w.heap.size h) := by rw [hw2]; exact G0.out.put6_o (by omega) s
  replace G1 : Hid (SW v_3 (w.heap.size + 1) s) := by rw [hw2]; exact G1.out.put s
  replace FK : Hid (Keeps sb w v_3) := by rw [hw2]; exact FK.out.put6_o (by omega) s
  clear hw2
  clear x0_0 x0_1 x0_2 x0_3 x0_4 x0_5 x0_6 x0_7 x0_8 x0_9 x0_10 x0_11 x1_0 x1_1 x1_2 x1_3 x1_4 x1_5
  obtain ⟨x0_0, x0_1, x0_2, x0_3, x0_4, x0_5, x0_6, x0_7, x0_8, x0_9, x0_10, x0_11⟩ := F0.out
  obtain ⟨x1_0, x1_1, x1_2, x1_3, x1_4, x1_5, y1_0, y1_1, y1_2, y1_3, y1_4, y1_5⟩ := F1.out
  refine hK.out _ _ (by (try dsimp only); first | exact ⟨x0_0, x0_1, x0_2, x0_3, x0_4, x0_5, x0_6, x0_7, x0_8, x0_9, x0_10, x0_11, x1_0, x1_1, x1_2, x1_3, x1_4, x1_5⟩ | go_keep) (fun hHeld => ?_)
  clear hK K
  try simp only [Act.put, List.getElem_toArray, List.getElem_cons_succ, List.getElem_cons_zero, List.setIfInBounds_toArray, List.set_cons_zero, List.set_cons_succ]
  refine wpAnyH_done (by kernel_rfl) ?_ _
  obtain ⟨d0, d1, d2, d3, d4, d5, d6, d7, d8, d9, d10, d11, e0, e1, e2, e3, e4, e5, e6, e7, e8, e9, e10, e11⟩ := G0.out
  obtain ⟨k0, k1, k2, k3, k4, k5, -, -, -, -, -, -⟩ := G1.out
  go_wp2_with fail
  exact bodyPost_ret (v := .tuple #[.agg #[.int .i64 h.fl, .int .i64 h.gp, .int .i64 h.ln, .int .i64 h.rf, .int .i64 h.sp, .int .i64 h.pu, .int .i64 h.br, .int .i64 h.dr, .int .i64 h.lv, .int .i64 h.dO, .int .i64 h.ld, .int .i64 h.qu], .agg #[.int .i64 s.lo.pos, .int .i64 s.lo.vel, .int .i64 s.lo.door, .int .i64 s.up.pos, .int .i64 s.up.vel, .int .i64 s.up.door]]) (by simp [results, Try.results48, go_sem, d0, d1, d2, d3, d4, d5, d6, d7, d8, d9, d10, d11, k0, k1, k2, k3, k4, k5]) rfl ⟨h, s, rfl, FK.out.below (by omega) (Nat.le_refl _)⟩
set_option maxRecDepth 20000 in
set_option maxHeartbeats 16000000 in
theorem DrawHaltShaft_any (a : Option Addr) (len cap : Nat) (w : World) (hc : CodeIn w w.heap.size a len) :
    Calls Try.prog 18 #[.slice a len cap] w fun e w' => ∃ (h : Hs) (s : Sh), e = .returned (.tuple #[.agg #[.int .i64 h.fl, .int .i64 h.gp, .int .i64 h.ln, .int .i64 h.rf, .int .i64 h.sp, .int .i64 h.pu, .int .i64 h.br, .int .i64 h.dr, .int .i64 h.lv, .int .i64 h.dO, .int .i64 h.ld, .int .i64 h.qu], .agg #[.int .i64 s.lo.pos, .int .i64 s.lo.vel, .int .i64 s.lo.door, .int .i64 s.up.pos, .int .i64 s.up.vel, .int .i64 s.up.door]]) ∧ Below w.heap.size w w' := by
  obtain ⟨W0, hW0⟩ : ∃ W0, W0 = ((w.alloc (.cells #[.int .i64 0, .int .i64 0, .int .i64 0, .int .i64 0, .int .i64 0, .int .i64 0, .int .i64 0, .int .i64 0, .int .i64 0, .int .i64 0, .int .i64 0, .int .i64 0] 25)).alloc (.cells #[.int .i64 0, .int .i64 0, .int .i64 0, .int .i64 0, .int .i64 0, .int .i64 0] 40)) := ⟨_, rfl⟩
  have HB : Hid (Below w.heap.size w W0) := by rw [hW0]; exact ((Below.refl _ _).alloc (Nat.le_refl _) _).alloc (by simp) _
  have HC : Hid (CodeIn W0 W0.heap.size a len) := codeIn_mono (hc.keep fun b off _ hb => by rw [hW0]; exact (World.cell?_alloc_past _ _ _ (by simp; omega)).trans (World.cell?_alloc_past _ _ _ hb)) HB.out.size
  have G0 : Hid (HW W0 w.heap.size (⟨0, 0, 0, 0, 0, 0, 0, 0, 0, 0, 0, 0⟩ : Hs)) := by rw [hW0]; exact (HW.new w (⟨0, 0, 0, 0, 0, 0, 0, 0, 0, 0, 0, 0⟩ : Hs) _).alloc _
  have G1 : Hid (R6 W0 (w.heap.size + 1)) := by rw [hW0]; exact R6.at_ _ _ _ (by simp)
  have HW0 : Hid (W0 = ((w.alloc (.cells #[.int .i64 0, .int .i64 0, .int .i64 0, .int .i64 0, .int .i64 0, .int .i64 0, .int .i64 0, .int .i64 0, .int .i64 0, .int .i64 0, .int .i64 0, .int .i64 0] 25)).alloc (.cells #[.int .i64 0, .int .i64 0, .int .i64 0, .int .i64 0, .int .i64 0, .int .i64 0] 40))) := hW0
  clear hW0 hc
  go_enter Try.func18, Try.ntmps18
  go_wp2_with fail
  rw [← HW0.out]
  clear HW0
  refine (l5One_any a len cap _ HC.out).mono ?_
  rintro e w2 ⟨h, s, rfl, hb⟩
  have G0 : Hid (HW w2 w.heap.size (⟨0, 0, 0, 0, 0, 0, 0, 0, 0, 0, 0, 0⟩ : Hs)) := G0.out.below hb G0.out.lt
  have G1 : Hid (R6 w2 (w.heap.size + 1)) := G1.out.below hb G1.out.lt
  have FB : Hid (Below w.heap.size w w2) := HB.out.trans (hb.mono HB.out.size)
  clear hb HB HC
  obtain ⟨d0, d1, d2, d3, d4, d5, d6, d7, d8, d9, d10, d11, e0, e1, e2, e3, e4, e5, e6, e7, e8, e9, e10, e11⟩ := G0.out
  obtain ⟨r0, r1, r2, r3, r4, r5, s0, s1, s2, s3, s4, s5⟩ := G1.out
  try dsimp only at d0 d1 d2 d3 d4 d5 d6 d7 d8 d9 d10 d11
  go_wp2
  change bodyPost _ _ _ _ _ (put6 (putH w2 w.heap.size h) (w.heap.size + 1) s)
  obtain ⟨Wf, hWf⟩ : ∃ Wf, put6 (putH w2 w.heap.size h) (w.heap.size + 1) s = Wf := ⟨_, rfl⟩
  have H0 : HW Wf w.heap.size h := hWf ▸ (G0.out.put h).put6_o (by omega) s
  have H1 : SW Wf (w.heap.size + 1) s := hWf ▸ (G1.out.putH_o (by omega) h).put s
  have HB : Below w.heap.size w Wf := hWf ▸ below_put6 (below_putH FB.out (Nat.le_refl _) h) (by omega) s
  rw [hWf]
  clear hWf d0 d1 d2 d3 d4 d5 d6 d7 d8 d9 d10 d11 e0 e1 e2 e3 e4 e5 e6 e7 e8 e9 e10 e11 r0 r1 r2 r3 r4 r5 s0 s1 s2 s3 s4 s5
  obtain ⟨d0, d1, d2, d3, d4, d5, d6, d7, d8, d9, d10, d11, -, -, -, -, -, -, -, -, -, -, -, -⟩ := H0
  obtain ⟨k0, k1, k2, k3, k4, k5, -, -, -, -, -, -⟩ := H1
  exact bodyPost_ret (v := .tuple #[.agg #[.int .i64 h.fl, .int .i64 h.gp, .int .i64 h.ln, .int .i64 h.rf, .int .i64 h.sp, .int .i64 h.pu, .int .i64 h.br, .int .i64 h.dr, .int .i64 h.lv, .int .i64 h.dO, .int .i64 h.ld, .int .i64 h.qu], .agg #[.int .i64 s.lo.pos, .int .i64 s.lo.vel, .int .i64 s.lo.door, .int .i64 s.up.pos, .int .i64 s.up.vel, .int .i64 s.up.door]]) (by simp [results, Try.results18, go_sem, d0, d1, d2, d3, d4, d5, d6, d7, d8, d9, d10, d11, k0, k1, k2, k3, k4, k5]) rfl (by first | exact ⟨h, s, rfl, HB⟩ | exact ⟨⟨h, s, rfl⟩, HB⟩)
end Go.Proofs.Ytclfdfcakmgffaa
