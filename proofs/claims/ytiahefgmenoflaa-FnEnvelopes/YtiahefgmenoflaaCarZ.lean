/-
  The house and the car that the bytes draw.
-/
import Derived.Test.YtiahefgmenoflaaCarX
import Derived.Test.YtiahefgmenoflaaDrawL
import Derived.Test.YtiahefgmenoflaaHouseB
namespace Go.Proofs.Ytiahefgmenoflaa
open Go.RowKit Pl
set_option linter.unusedSimpArgs false
set_option linter.unusedVariables false

theorem l2Bent_t (sb B : Nat) (a : Option Addr) (len cap T : Nat) (w : World) (h : SrcT w sb B a len cap T) (hT : T ≤ 800000) :
    Calls Try.prog 68 #[.pointer (some ⟨sb, 0, none⟩)] w fun e w' => ∃ h : Hs, e = .returned (.agg #[.int .i64 h.fl, .int .i64 h.gp, .int .i64 h.ln, .int .i64 h.rf, .int .i64 h.sp, .int .i64 h.pu, .int .i64 h.br, .int .i64 h.dr, .int .i64 h.lv, .int .i64 h.dO, .int .i64 h.ld, .int .i64 h.qu]) ∧ SrcT w' sb B a len cap (T + 60) ∧ Keeps sb w w' := by
  obtain ⟨t, ht, h⟩ := h
  refine (l2Bent_src sb B a len cap t w h (by omega)).mono ?_
  rintro e w' ⟨v, t', he, ht', hs, hk⟩
  exact ⟨v, he, ⟨_, by omega, hs⟩, hk⟩
set_option maxRecDepth 20000 in
set_option maxHeartbeats 16000000 in
theorem l3One_any (a : Option Addr) (len cap : Nat) (w : World) (hc : CodeIn w w.heap.size a len) :
    Calls Try.prog 30 #[.slice a len cap] w fun e w' => ∃ (h : Hs) (c : Cs), e = .returned (.tuple #[.agg #[.int .i64 h.fl, .int .i64 h.gp, .int .i64 h.ln, .int .i64 h.rf, .int .i64 h.sp, .int .i64 h.pu, .int .i64 h.br, .int .i64 h.dr, .int .i64 h.lv, .int .i64 h.dO, .int .i64 h.ld, .int .i64 h.qu], .agg #[.int .i64 c.pos, .int .i64 c.vel, .int .i64 c.door]]) ∧ Below w.heap.size w w' := by
  obtain ⟨W0, hW0⟩ : ∃ W0, W0 = ((w.alloc (.cells #[.int .i64 0, .int .i64 0, .int .i64 0, .int .i64 0, .int .i64 0, .int .i64 0, .int .i64 0, .int .i64 0, .int .i64 0, .int .i64 0, .int .i64 0, .int .i64 0] 25)).alloc (.cells #[.int .i64 0, .int .i64 0, .int .i64 0] 27)) := ⟨_, rfl⟩
  obtain ⟨sb, hsb⟩ : ∃ sb, sb = W0.heap.size := ⟨_, rfl⟩
  have hsz : w.heap.size + 1 < sb := by rw [hsb, hW0]; simp
  have HC : Hid (CodeIn W0 w.heap.size a len) := by rw [hW0]; exact hc.keep fun b off _ hb => (World.cell?_alloc_past _ _ _ (by simp; omega)).trans (World.cell?_alloc_past _ _ _ hb)
  have G0 : Hid (HW W0 w.heap.size (⟨0, 0, 0, 0, 0, 0, 0, 0, 0, 0, 0, 0⟩ : Hs)) := by rw [hW0]; exact ((HW.new w (⟨0, 0, 0, 0, 0, 0, 0, 0, 0, 0, 0, 0⟩ : Hs) _).alloc _)
  have G1 : Hid (R3 W0 (w.heap.size + 1)) := by rw [hW0]; exact (R3.at_ _ _ _ (by simp))
  have FK : Hid (Keeps sb w W0) := by rw [hW0]; exact (((Keeps.refl _ _).alloc _).alloc _)
  have HW0 : Hid (W0 = ((w.alloc (.cells #[.int .i64 0, .int .i64 0, .int .i64 0, .int .i64 0, .int .i64 0, .int .i64 0, .int .i64 0, .int .i64 0, .int .i64 0, .int .i64 0, .int .i64 0, .int .i64 0] 25)).alloc (.cells #[.int .i64 0, .int .i64 0, .int .i64 0] 27))) := hW0
  have HSB : Hid (sb = W0.heap.size) := hsb
  clear hW0 hsb hc
  go_enter Try.func30, Try.ntmps30
  go_wp2_with fail
  rw [← HW0.out]
  clear HW0
  refine (l1Source_t w.heap.size a len cap _ (by have := HSB.out; omega) HC.out).mono ?_
  rw [← HSB.out]
  rintro e w1 ⟨rfl, hs, hk⟩
  clear HSB
  have G0 : Hid (HW w1 w.heap.size (⟨0, 0, 0, 0, 0, 0, 0, 0, 0, 0, 0, 0⟩ : Hs)) := G0.out.keeps hk (by omega)
  have G1 : Hid (R3 w1 (w.heap.size + 1)) := G1.out.keeps hk (by omega)
  have FS : Hid (SrcT w1 sb w.heap.size a len cap (0)) := hs
  have FK : Hid (Keeps sb w w1) := FK.out.trans hk
  clear hs hk
  go_wp2_with fail
  refine (l2House_t sb _ a len cap _ _ FS.out (by omega)).mono ?_
  rintro e w2 ⟨h, rfl, hsm, hs, hk⟩
  have HO : Hid h.Ok := hsm.ok
  clear hsm
  have G0 : Hid (HW w2 w.heap.size (⟨0, 0, 0, 0, 0, 0, 0, 0, 0, 0, 0, 0⟩ : Hs)) := G0.out.keeps hk (by omega)
  have G1 : Hid (R3 w2 (w.heap.size + 1)) := G1.out.keeps hk (by omega)
  have FS : Hid (SrcT w2 sb w.heap.size a len cap (0 + 40)) := hs
  have FK : Hid (Keeps sb w w2) := FK.out.trans hk
  clear hs hk
  go_wp2_with fail
  obtain ⟨b1, hb1⟩ : ∃ b1, b1 = w2.heap.size := ⟨_, rfl⟩
  obtain ⟨w3, hw3⟩ : ∃ w3, w3 = w2.alloc (.cells #[.int .i64 h.fl, .int .i64 h.gp, .int .i64 h.ln, .int .i64 h.rf, .int .i64 h.sp, .int .i64 h.pu, .int .i64 h.br, .int .i64 h.dr, .int .i64 h.lv, .int .i64 h.dO, .int .i64 h.ld, .int .i64 h.qu] 25) := ⟨_, rfl⟩
  have lb1G0 := G0.out.lt
  rw [← hb1] at lb1G0
  have lb1G1 := G1.out.lt
  rw [← hb1] at lb1G1
  have lb1FS := FS.out.lt
  rw [← hb1] at lb1FS
  have G0 : Hid (HW w3 w.heap.size (⟨0, 0, 0, 0, 0, 0, 0, 0, 0, 0, 0, 0⟩ : Hs)) := by rw [hw3]; exact G0.out.alloc _
  have G1 : Hid (R3 w3 (w.heap.size + 1)) := by rw [hw3]; exact G1.out.alloc _
  have FS : Hid (SrcT w3 sb w.heap.size a len cap (0 + 40)) := by rw [hw3]; exact FS.out.alloc _
  have FK : Hid (Keeps sb w w3) := by rw [hw3]; exact FK.out.alloc _
  have F0 : Hid (HW w3 b1 h) := by rw [hw3, hb1]; exact HW.new w2 h _
  rw [← hw3, ← hb1]
  clear hw3 hb1
  refine (l3DrawCar_t h HO.out sb _ a len cap _ _ FS.out (by omega)).mono ?_
  rintro e w4 ⟨g, rfl, hs, hk⟩
  have G0 : Hid (HW w4 w.heap.size (⟨0, 0, 0, 0, 0, 0, 0, 0, 0, 0, 0, 0⟩ : Hs)) := G0.out.keeps hk (by omega)
  have G1 : Hid (R3 w4 (w.heap.size + 1)) := G1.out.keeps hk (by omega)
  have F0 : Hid (HW w4 b1 h) := F0.out.keeps hk (by omega)
  have FS : Hid (SrcT w4 sb w.heap.size a len cap (0 + 40 + 40)) := hs
  have FK : Hid (Keeps sb w w4) := FK.out.trans hk
  clear hs hk
  go_wp2_with fail
  obtain ⟨b2, hb2⟩ : ∃ b2, b2 = w4.heap.size := ⟨_, rfl⟩
  obtain ⟨w5, hw5⟩ : ∃ w5, w5 = w4.alloc (.cells #[.int .i64 g.pos, .int .i64 g.vel, .int .i64 g.door] 27) := ⟨_, rfl⟩
  have lb2G0 := G0.out.lt
  rw [← hb2] at lb2G0
  have lb2G1 := G1.out.lt
  rw [← hb2] at lb2G1
  have lb2F0 := F0.out.lt
  rw [← hb2] at lb2F0
  have lb2FS := FS.out.lt
  rw [← hb2] at lb2FS
  have G0 : Hid (HW w5 w.heap.size (⟨0, 0, 0, 0, 0, 0, 0, 0, 0, 0, 0, 0⟩ : Hs)) := by rw [hw5]; exact G0.out.alloc _
  have G1 : Hid (R3 w5 (w.heap.size + 1)) := by rw [hw5]; exact G1.out.alloc _
  have F0 : Hid (HW w5 b1 h) := by rw [hw5]; exact F0.out.alloc _
  have FS : Hid (SrcT w5 sb w.heap.size a len cap (0 + 40 + 40)) := by rw [hw5]; exact FS.out.alloc _
  have FK : Hid (Keeps sb w w5) := by rw [hw5]; exact FK.out.alloc _
  have F1 : Hid (CW w5 b2 g) := by rw [hw5, hb2]; exact CW.at_ w4 g _ _ rfl
  rw [← hw5, ← hb2]
  clear hw5 hb2
  refine (l1Chance_t sb _ a len cap _ _ _ FS.out (by omega) (by omega) (by omega)).mono ?_
  rintro e w6 ⟨vb, rfl, hs, hk⟩
  have G0 : Hid (HW w6 w.heap.size (⟨0, 0, 0, 0, 0, 0, 0, 0, 0, 0, 0, 0⟩ : Hs)) := G0.out.keeps hk (by omega)
  have G1 : Hid (R3 w6 (w.heap.size + 1)) := G1.out.keeps hk (by omega)
  have F0 : Hid (HW w6 b1 h) := F0.out.keeps hk (by omega)
  have F1 : Hid (CW w6 b2 g) := F1.out.keeps hk (by omega)
  have FS : Hid (SrcT w6 sb w.heap.size a len cap (0 + 40 + 40 + 1)) := hs
  have FK : Hid (Keeps sb w w6) := FK.out.trans hk
  clear hs hk
  cases vb
  · go_wp2_with fail
    have FB : Hid (Below w.heap.size w w6) := FK.out.below (by omega) (Nat.le_refl _)
    have F0 : Hid (HAt w6 b1 h) := F0.out.hat
    have F0 : Hid (HAt w6.drew b1 h) := F0.out.below (Below.refl _ _).drew F0.out.lt
    have F1 : Hid (CW w6.drew b2 g) := F1.out.below (Below.refl _ _).drew F1.out.lt
    have G0 : Hid (HW w6.drew w.heap.size (⟨0, 0, 0, 0, 0, 0, 0, 0, 0, 0, 0, 0⟩ : Hs)) := G0.out.below (Below.refl _ _).drew G0.out.lt
    have G1 : Hid (R3 w6.drew (w.heap.size + 1)) := G1.out.below (Below.refl _ _).drew G1.out.lt
    have FB : Hid (Below w.heap.size w w6.drew) := FB.out.drew
    obtain ⟨x0_0, x0_1, x0_2, x0_3, x0_4, x0_5, x0_6, x0_7, x0_8, x0_9, x0_10, x0_11⟩ := F0.out
    obtain ⟨x1_0, x1_1, x1_2, y1_0, y1_1, y1_2⟩ := F1.out
    refine wp_region_held_drew (S := (fun w'' => w''.cell? ⟨b1, 0, none⟩ = some (.int .i64 h.fl) ∧ w''.cell? ⟨b1, 1, none⟩ = some (.int .i64 h.gp) ∧ w''.cell? ⟨b1, 2, none⟩ = some (.int .i64 h.ln) ∧ w''.cell? ⟨b1, 3, none⟩ = some (.int .i64 h.rf) ∧ w''.cell? ⟨b1, 4, none⟩ = some (.int .i64 h.sp) ∧ w''.cell? ⟨b1, 5, none⟩ = some (.int .i64 h.pu) ∧ w''.cell? ⟨b1, 6, none⟩ = some (.int .i64 h.br) ∧ w''.cell? ⟨b1, 7, none⟩ = some (.int .i64 h.dr) ∧ w''.cell? ⟨b1, 8, none⟩ = some (.int .i64 h.lv) ∧ w''.cell? ⟨b1, 9, none⟩ = some (.int .i64 h.dO) ∧ w''.cell? ⟨b1, 10, none⟩ = some (.int .i64 h.ld) ∧ w''.cell? ⟨b1, 11, none⟩ = some (.int .i64 h.qu) ∧ w''.cell? ⟨b2, 0, none⟩ = some (.int .i64 g.pos) ∧ w''.cell? ⟨b2, 1, none⟩ = some (.int .i64 g.vel) ∧ w''.cell? ⟨b2, 2, none⟩ = some (.int .i64 g.door))) (by kernel_rfl) (by (try dsimp only); first | exact ⟨x0_0, x0_1, x0_2, x0_3, x0_4, x0_5, x0_6, x0_7, x0_8, x0_9, x0_10, x0_11, x1_0, x1_1, x1_2⟩ | go_keep) (fun hHeld => ?_)
    obtain ⟨v_1, hw1⟩ : ∃ v_1, v_1 = w6.drew := ⟨_, rfl⟩
    have F0 : Hid (HAt v_1 b1 h) := by rw [hw1]; exact F0.out
    have F1 : Hid (CW v_1 b2 g) := by rw [hw1]; exact F1.out
    have G0 : Hid (HW v_1 w.heap.size (⟨0, 0, 0, 0, 0, 0, 0, 0, 0, 0, 0, 0⟩ : Hs)) := by rw [hw1]; exact G0.out
    have G1 : Hid (R3 v_1 (w.heap.size + 1)) := by rw [hw1]; exact G1.out
    have FB : Hid (Below w.heap.size w v_1) := by rw [hw1]; exact FB.out
    rw [← hw1] at hHeld ⊢
    clear hw1
    obtain ⟨x0_0, x0_1, x0_2, x0_3, x0_4, x0_5, x0_6, x0_7, x0_8, x0_9, x0_10, x0_11⟩ := F0.out
    obtain ⟨x1_0, x1_1, x1_2, y1_0, y1_1, y1_2⟩ := F1.out
    refine wpAnyH_take (i := 0) (v := _) rfl (by kernel_rfl) (by kernel_rfl) (by kernel_rfl) (fun _ _ _ h => h) (Or.inl ⟨by kernel_rfl, by (intro wx hSw; (try dsimp only at hSw); go_simp <;> with_reducible rfl)⟩) (by assumption) ?_
    try simp only [Act.put, List.getElem_toArray, List.getElem_cons_succ, List.getElem_cons_zero, List.setIfInBounds_toArray, List.set_cons_zero, List.set_cons_succ]
    refine wpAnyH_take (i := 1) (v := _) rfl (by kernel_rfl) (by kernel_rfl) (by kernel_rfl) (fun _ _ _ h => h) (Or.inl ⟨by kernel_rfl, by (intro wx hSw; (try dsimp only at hSw); go_simp <;> with_reducible rfl)⟩) (by assumption) ?_
    try simp only [Act.put, List.getElem_toArray, List.getElem_cons_succ, List.getElem_cons_zero, List.setIfInBounds_toArray, List.set_cons_zero, List.set_cons_succ]
    refine wpAnyH_ready (rs := [2]) (by kernel_rfl) (by simp) ?_
    refine (AllReadyH.cons rfl (fun K hK => ?_) AllReadyH.nil)
    obtain ⟨d0, d1, d2, d3, d4, d5, d6, d7, d8, d9, d10, d11, e0, e1, e2, e3, e4, e5, e6, e7, e8, e9, e10, e11⟩ := G0.out
    try dsimp only at d0 d1 d2 d3 d4 d5 d6 d7 d8 d9 d10 d11
    go_simp
    obtain ⟨v_2, hw2⟩ : ∃ v_2, v_2 = putH v_1 w.heap.size h := ⟨_, rfl⟩
    change K _ (putH v_1 w.heap.size h)
    rw [← hw2]
    clear d0 e0 d1 e1 d2 e2 d3 e3 d4 e4 d5 e5 d6 e6 d7 e7 d8 e8 d9 e9 d10 e10 d11 e11
    have F0 : Hid (HAt v_2 b1 h) := by rw [hw2]; exact F0.out.put_h (by omega) h
    have F1 : Hid (CW v_2 b2 g) := by rw [hw2]; exact F1.out.put_h (by omega) h
    have G0 : Hid (HW v_2 w.heap.size h) := by rw [hw2]; exact G0.out.put h
    have G1 : Hid (R3 v_2 (w.heap.size + 1)) := by rw [hw2]; exact R3.put_h G1.out h
    have FB : Hid (Below w.heap.size w v_2) := by rw [hw2]; exact below_putH FB.out (Nat.le_refl _) h
    clear hw2
    obtain ⟨x0_0, x0_1, x0_2, x0_3, x0_4, x0_5, x0_6, x0_7, x0_8, x0_9, x0_10, x0_11⟩ := F0.out
    obtain ⟨x1_0, x1_1, x1_2, y1_0, y1_1, y1_2⟩ := F1.out
    refine hK.out _ _ (by (try dsimp only); first | exact ⟨x0_0, x0_1, x0_2, x0_3, x0_4, x0_5, x0_6, x0_7, x0_8, x0_9, x0_10, x0_11, x1_0, x1_1, x1_2⟩ | go_keep) (fun hHeld => ?_)
    clear hK K
    try simp only [Act.put, List.getElem_toArray, List.getElem_cons_succ, List.getElem_cons_zero, List.setIfInBounds_toArray, List.set_cons_zero, List.set_cons_succ]
    refine wpAnyH_ready (rs := [3]) (by kernel_rfl) (by simp) ?_
    refine (AllReadyH.cons rfl (fun K hK => ?_) AllReadyH.nil)
    obtain ⟨r0, r1, r2, s0, s1, s2⟩ := G1.out
    go_simp
    obtain ⟨v_3, hw2⟩ : ∃ v_3, v_3 = put3 v_2 (w.heap.size + 1) g := ⟨_, rfl⟩
    change K _ (put3 v_2 (w.heap.size + 1) g)
    rw [← hw2]
    clear r0 r1 r2 s0 s1 s2
    have F0 : Hid (HAt v_3 b1 h) := by rw [hw2]; exact F0.out.put3_other (by omega) g
    have F1 : Hid (CW v_3 b2 g) := by rw [hw2]; exact F1.out.put_other (by omega) g
    have G0 : Hid (HW v_3 w.heap.size h) := by rw [hw2]; exact G0.out.below (below_put3 (Below.refl _ _) (Nat.le_refl _) g) (by omega)
    have G1 : Hid (CW v_3 (w.heap.size + 1) g) := by rw [hw2]; exact G1.out.cw.put g
    have FB : Hid (Below w.heap.size w v_3) := by rw [hw2]; exact below_put3 FB.out (by omega) g
    clear hw2
    obtain ⟨x0_0, x0_1, x0_2, x0_3, x0_4, x0_5, x0_6, x0_7, x0_8, x0_9, x0_10, x0_11⟩ := F0.out
    obtain ⟨x1_0, x1_1, x1_2, y1_0, y1_1, y1_2⟩ := F1.out
    refine hK.out _ _ (by (try dsimp only); first | exact ⟨x0_0, x0_1, x0_2, x0_3, x0_4, x0_5, x0_6, x0_7, x0_8, x0_9, x0_10, x0_11, x1_0, x1_1, x1_2⟩ | go_keep) (fun hHeld => ?_)
    clear hK K
    try simp only [Act.put, List.getElem_toArray, List.getElem_cons_succ, List.getElem_cons_zero, List.setIfInBounds_toArray, List.set_cons_zero, List.set_cons_succ]
    refine wpAnyH_done (by kernel_rfl) ?_ _
    obtain ⟨d0, d1, d2, d3, d4, d5, d6, d7, d8, d9, d10, d11, e0, e1, e2, e3, e4, e5, e6, e7, e8, e9, e10, e11⟩ := G0.out
    obtain ⟨k0, k1, k2, m0, m1, m2⟩ := G1.out
    go_wp2_with fail
    exact bodyPost_ret (v := .tuple #[.agg #[.int .i64 h.fl, .int .i64 h.gp, .int .i64 h.ln, .int .i64 h.rf, .int .i64 h.sp, .int .i64 h.pu, .int .i64 h.br, .int .i64 h.dr, .int .i64 h.lv, .int .i64 h.dO, .int .i64 h.ld, .int .i64 h.qu], .agg #[.int .i64 g.pos, .int .i64 g.vel, .int .i64 g.door]]) (by simp [results, Try.results30, go_sem, d0, d1, d2, d3, d4, d5, d6, d7, d8, d9, d10, d11, k0, k1, k2]) rfl ⟨h, g, rfl, FB.out⟩
  · go_wp2_with fail
    refine (l2Bent_t sb _ a len cap _ _ FS.out (by omega)).mono ?_
    rintro e w7 ⟨h2, rfl, hs, hk⟩
    have G0 : Hid (HW w7 w.heap.size (⟨0, 0, 0, 0, 0, 0, 0, 0, 0, 0, 0, 0⟩ : Hs)) := G0.out.keeps hk (by omega)
    have G1 : Hid (R3 w7 (w.heap.size + 1)) := G1.out.keeps hk (by omega)
    have F0 : Hid (HW w7 b1 h) := F0.out.keeps hk (by omega)
    have F1 : Hid (CW w7 b2 g) := F1.out.keeps hk (by omega)
    have FS : Hid (SrcT w7 sb w.heap.size a len cap (0 + 40 + 40 + 1 + 60)) := hs
    have FK : Hid (Keeps sb w w7) := FK.out.trans hk
    clear hs hk
    obtain ⟨c0, c1, c2, c3, c4, c5, c6, c7, c8, c9, c10, c11, f0, f1, f2, f3, f4, f5, f6, f7, f8, f9, f10, f11⟩ := F0.out
    go_wp2_with fail
    clear c0 f0 c1 f1 c2 f2 c3 f3 c4 f4 c5 f5 c6 f6 c7 f7 c8 f8 c9 f9 c10 f10 c11 f11
    have FB : Hid (Below w.heap.size w w7) := FK.out.below (by omega) (Nat.le_refl _)
    obtain ⟨w8, hw8⟩ : ∃ w8, w8 = putH w7 b1 h2 := ⟨_, rfl⟩
    have F0 : Hid (HAt w8 b1 h2) := by rw [hw8]; exact (F0.out.put h2).hat
    have F1 : Hid (CW w8 b2 g) := by rw [hw8]; exact F1.out.put_h (by omega) h2
    have G0 : Hid (HW w8 w.heap.size (⟨0, 0, 0, 0, 0, 0, 0, 0, 0, 0, 0, 0⟩ : Hs)) := by rw [hw8]; exact G0.out.below (below_putH (Below.refl _ _) (Nat.le_refl _) h2) (by omega)
    have G1 : Hid (R3 w8 (w.heap.size + 1)) := by rw [hw8]; exact G1.out.below (below_putH (Below.refl _ _) (Nat.le_refl _) h2) (by omega)
    have FB : Hid (Below w.heap.size w w8) := by rw [hw8]; exact below_putH FB.out (by omega) h2
    change Code.wp _ _ _ _ (putH w7 b1 h2)
    rw [← hw8]
    clear hw8
    have F0 : Hid (HAt w8.drew b1 h2) := F0.out.below (Below.refl _ _).drew F0.out.lt
    have F1 : Hid (CW w8.drew b2 g) := F1.out.below (Below.refl _ _).drew F1.out.lt
    have G0 : Hid (HW w8.drew w.heap.size (⟨0, 0, 0, 0, 0, 0, 0, 0, 0, 0, 0, 0⟩ : Hs)) := G0.out.below (Below.refl _ _).drew G0.out.lt
    have G1 : Hid (R3 w8.drew (w.heap.size + 1)) := G1.out.below (Below.refl _ _).drew G1.out.lt
    have FB : Hid (Below w.heap.size w w8.drew) := FB.out.drew
    obtain ⟨x0_0, x0_1, x0_2, x0_3, x0_4, x0_5, x0_6, x0_7, x0_8, x0_9, x0_10, x0_11⟩ := F0.out
    obtain ⟨x1_0, x1_1, x1_2, y1_0, y1_1, y1_2⟩ := F1.out
    refine wp_region_held_drew (S := (fun w'' => w''.cell? ⟨b1, 0, none⟩ = some (.int .i64 h2.fl) ∧ w''.cell? ⟨b1, 1, none⟩ = some (.int .i64 h2.gp) ∧ w''.cell? ⟨b1, 2, none⟩ = some (.int .i64 h2.ln) ∧ w''.cell? ⟨b1, 3, none⟩ = some (.int .i64 h2.rf) ∧ w''.cell? ⟨b1, 4, none⟩ = some (.int .i64 h2.sp) ∧ w''.cell? ⟨b1, 5, none⟩ = some (.int .i64 h2.pu) ∧ w''.cell? ⟨b1, 6, none⟩ = some (.int .i64 h2.br) ∧ w''.cell? ⟨b1, 7, none⟩ = some (.int .i64 h2.dr) ∧ w''.cell? ⟨b1, 8, none⟩ = some (.int .i64 h2.lv) ∧ w''.cell? ⟨b1, 9, none⟩ = some (.int .i64 h2.dO) ∧ w''.cell? ⟨b1, 10, none⟩ = some (.int .i64 h2.ld) ∧ w''.cell? ⟨b1, 11, none⟩ = some (.int .i64 h2.qu) ∧ w''.cell? ⟨b2, 0, none⟩ = some (.int .i64 g.pos) ∧ w''.cell? ⟨b2, 1, none⟩ = some (.int .i64 g.vel) ∧ w''.cell? ⟨b2, 2, none⟩ = some (.int .i64 g.door))) (by kernel_rfl) (by (try dsimp only); first | exact ⟨x0_0, x0_1, x0_2, x0_3, x0_4, x0_5, x0_6, x0_7, x0_8, x0_9, x0_10, x0_11, x1_0, x1_1, x1_2⟩ | go_keep) (fun hHeld => ?_)
    obtain ⟨v_4, hw1⟩ : ∃ v_4, v_4 = w8.drew := ⟨_, rfl⟩
    have F0 : Hid (HAt v_4 b1 h2) := by rw [hw1]; exact F0.out
    have F1 : Hid (CW v_4 b2 g) := by rw [hw1]; exact F1.out
    have G0 : Hid (HW v_4 w.heap.size (⟨0, 0, 0, 0, 0, 0, 0, 0, 0, 0, 0, 0⟩ : Hs)) := by rw [hw1]; exact G0.out
    have G1 : Hid (R3 v_4 (w.heap.size + 1)) := by rw [hw1]; exact G1.out
    have FB : Hid (Below w.heap.size w v_4) := by rw [hw1]; exact FB.out
    rw [← hw1] at hHeld ⊢
    clear hw1
    obtain ⟨x0_0, x0_1, x0_2, x0_3, x0_4, x0_5, x0_6, x0_7, x0_8, x0_9, x0_10, x0_11⟩ := F0.out
    obtain ⟨x1_0, x1_1, x1_2, y1_0, y1_1, y1_2⟩ := F1.out
    refine wpAnyH_take (i := 0) (v := _) rfl (by kernel_rfl) (by kernel_rfl) (by kernel_rfl) (fun _ _ _ h => h) (Or.inl ⟨by kernel_rfl, by (intro wx hSw; (try dsimp only at hSw); go_simp <;> with_reducible rfl)⟩) (by assumption) ?_
    try simp only [Act.put, List.getElem_toArray, List.getElem_cons_succ, List.getElem_cons_zero, List.setIfInBounds_toArray, List.set_cons_zero, List.set_cons_succ]
    refine wpAnyH_take (i := 1) (v := _) rfl (by kernel_rfl) (by kernel_rfl) (by kernel_rfl) (fun _ _ _ h => h) (Or.inl ⟨by kernel_rfl, by (intro wx hSw; (try dsimp only at hSw); go_simp <;> with_reducible rfl)⟩) (by assumption) ?_
    try simp only [Act.put, List.getElem_toArray, List.getElem_cons_succ, List.getElem_cons_zero, List.setIfInBounds_toArray, List.set_cons_zero, List.set_cons_succ]
    refine wpAnyH_ready (rs := [2]) (by kernel_rfl) (by simp) ?_
    refine (AllReadyH.cons rfl (fun K hK => ?_) AllReadyH.nil)
    obtain ⟨d0, d1, d2, d3, d4, d5, d6, d7, d8, d9, d10, d11, e0, e1, e2, e3, e4, e5, e6, e7, e8, e9, e10, e11⟩ := G0.out
    try dsimp only at d0 d1 d2 d3 d4 d5 d6 d7 d8 d9 d10 d11
    go_simp
    obtain ⟨v_5, hw2⟩ : ∃ v_5, v_5 = putH v_4 w.heap.size h2 := ⟨_, rfl⟩
    change K _ (putH v_4 w.heap.size h2)
    rw [← hw2]
    clear d0 e0 d1 e1 d2 e2 d3 e3 d4 e4 d5 e5 d6 e6 d7 e7 d8 e8 d9 e9 d10 e10 d11 e11
    have F0 : Hid (HAt v_5 b1 h2) := by rw [hw2]; exact F0.out.put_h (by omega) h2
    have F1 : Hid (CW v_5 b2 g) := by rw [hw2]; exact F1.out.put_h (by omega) h2
    have G0 : Hid (HW v_5 w.heap.size h2) := by rw [hw2]; exact G0.out.put h2
    have G1 : Hid (R3 v_5 (w.heap.size + 1)) := by rw [hw2]; exact R3.put_h G1.out h2
    have FB : Hid (Below w.heap.size w v_5) := by rw [hw2]; exact below_putH FB.out (Nat.le_refl _) h2
    clear hw2
    obtain ⟨x0_0, x0_1, x0_2, x0_3, x0_4, x0_5, x0_6, x0_7, x0_8, x0_9, x0_10, x0_11⟩ := F0.out
    obtain ⟨x1_0, x1_1, x1_2, y1_0, y1_1, y1_2⟩ := F1.out
    refine hK.out _ _ (by (try dsimp only); first | exact ⟨x0_0, x0_1, x0_2, x0_3, x0_4, x0_5, x0_6, x0_7, x0_8, x0_9, x0_10, x0_11, x1_0, x1_1, x1_2⟩ | go_keep) (fun hHeld => ?_)
    clear hK K
    try simp only [Act.put, List.getElem_toArray, List.getElem_cons_succ, List.getElem_cons_zero, List.setIfInBounds_toArray, List.set_cons_zero, List.set_cons_succ]
    refine wpAnyH_ready (rs := [3]) (by kernel_rfl) (by simp) ?_
    refine (AllReadyH.cons rfl (fun K hK => ?_) AllReadyH.nil)
    obtain ⟨r0, r1, r2, s0, s1, s2⟩ := G1.out
    go_simp
    obtain ⟨v_6, hw2⟩ : ∃ v_6, v_6 = put3 v_5 (w.heap.size + 1) g := ⟨_, rfl⟩
    change K _ (put3 v_5 (w.heap.size + 1) g)
    rw [← hw2]
    clear r0 r1 r2 s0 s1 s2
    have F0 : Hid (HAt v_6 b1 h2) := by rw [hw2]; exact F0.out.put3_other (by omega) g
    have F1 : Hid (CW v_6 b2 g) := by rw [hw2]; exact F1.out.put_other (by omega) g
    have G0 : Hid (HW v_6 w.heap.size h2) := by rw [hw2]; exact G0.out.below (below_put3 (Below.refl _ _) (Nat.le_refl _) g) (by omega)
    have G1 : Hid (CW v_6 (w.heap.size + 1) g) := by rw [hw2]; exact G1.out.cw.put g
    have FB : Hid (Below w.heap.size w v_6) := by rw [hw2]; exact below_put3 FB.out (by omega) g
    clear hw2
    obtain ⟨x0_0, x0_1, x0_2, x0_3, x0_4, x0_5, x0_6, x0_7, x0_8, x0_9, x0_10, x0_11⟩ := F0.out
    obtain ⟨x1_0, x1_1, x1_2, y1_0, y1_1, y1_2⟩ := F1.out
    refine hK.out _ _ (by (try dsimp only); first | exact ⟨x0_0, x0_1, x0_2, x0_3, x0_4, x0_5, x0_6, x0_7, x0_8, x0_9, x0_10, x0_11, x1_0, x1_1, x1_2⟩ | go_keep) (fun hHeld => ?_)
    clear hK K
    try simp only [Act.put, List.getElem_toArray, List.getElem_cons_succ, List.getElem_cons_zero, List.setIfInBounds_toArray, List.set_cons_zero, List.set_cons_succ]
    refine wpAnyH_done (by kernel_rfl) ?_ _
    obtain ⟨d0, d1, d2, d3, d4, d5, d6, d7, d8, d9, d10, d11, e0, e1, e2, e3, e4, e5, e6, e7, e8, e9, e10, e11⟩ := G0.out
    obtain ⟨k0, k1, k2, m0, m1, m2⟩ := G1.out
    go_wp2_with fail
    exact bodyPost_ret (v := .tuple #[.agg #[.int .i64 h2.fl, .int .i64 h2.gp, .int .i64 h2.ln, .int .i64 h2.rf, .int .i64 h2.sp, .int .i64 h2.pu, .int .i64 h2.br, .int .i64 h2.dr, .int .i64 h2.lv, .int .i64 h2.dO, .int .i64 h2.ld, .int .i64 h2.qu], .agg #[.int .i64 g.pos, .int .i64 g.vel, .int .i64 g.door]]) (by simp [results, Try.results30, go_sem, d0, d1, d2, d3, d4, d5, d6, d7, d8, d9, d10, d11, k0, k1, k2]) rfl ⟨h2, g, rfl, FB.out⟩
set_option maxRecDepth 20000 in
set_option maxHeartbeats 4000000 in
theorem DrawHighOf_any (a : Option Addr) (len cap : Nat) (w : World) (hc : CodeIn w w.heap.size a len) :
    Calls Try.prog 9 #[.slice a len cap] w fun e w' => ∃ (h : Hs) (c : Cs), e = .returned (.tuple #[.agg #[.int .i64 h.fl, .int .i64 h.gp, .int .i64 h.ln, .int .i64 h.rf, .int .i64 h.sp, .int .i64 h.pu, .int .i64 h.br, .int .i64 h.dr, .int .i64 h.lv, .int .i64 h.dO, .int .i64 h.ld, .int .i64 h.qu], .agg #[.int .i64 c.pos, .int .i64 c.vel, .int .i64 c.door]]) ∧ Below w.heap.size w w' := by
  obtain ⟨W0, hW0⟩ : ∃ W0, W0 = ((w.alloc (.cells #[.int .i64 0, .int .i64 0, .int .i64 0, .int .i64 0, .int .i64 0, .int .i64 0, .int .i64 0, .int .i64 0, .int .i64 0, .int .i64 0, .int .i64 0, .int .i64 0] 25)).alloc (.cells #[.int .i64 0, .int .i64 0, .int .i64 0] 27)) := ⟨_, rfl⟩
  have HC : Hid (CodeIn W0 W0.heap.size a len) := by rw [hW0]; exact (hc.keep fun b off _ hb => (World.cell?_alloc_past _ _ _ (by simp; omega)).trans (World.cell?_alloc_past _ _ _ hb)).up (by simp <;> omega)
  have G0 : Hid (HW W0 w.heap.size (⟨0, 0, 0, 0, 0, 0, 0, 0, 0, 0, 0, 0⟩ : Hs)) := by rw [hW0]; exact (HW.new w (⟨0, 0, 0, 0, 0, 0, 0, 0, 0, 0, 0, 0⟩ : Hs) _).alloc _
  have G1 : Hid (R3 W0 (w.heap.size + 1)) := by rw [hW0]; exact R3.at_ _ _ _ (by simp)
  have FB : Hid (Below w.heap.size w W0) := by rw [hW0]; exact ((Below.refl _ _).alloc (Nat.le_refl _) _).alloc (by simp) _
  have HW0 : Hid (W0 = ((w.alloc (.cells #[.int .i64 0, .int .i64 0, .int .i64 0, .int .i64 0, .int .i64 0, .int .i64 0, .int .i64 0, .int .i64 0, .int .i64 0, .int .i64 0, .int .i64 0, .int .i64 0] 25)).alloc (.cells #[.int .i64 0, .int .i64 0, .int .i64 0] 27))) := hW0
  clear hW0 hc
  go_enter Try.func9, Try.ntmps9
  go_wp2_with fail
  rw [← HW0.out]
  clear HW0
  refine (l3One_any a len cap _ HC.out).mono ?_
  rintro e w1 ⟨h, g, rfl, hb⟩
  have G0 : Hid (HW w1 w.heap.size (⟨0, 0, 0, 0, 0, 0, 0, 0, 0, 0, 0, 0⟩ : Hs)) := G0.out.below hb G0.out.lt
  have G1 : Hid (R3 w1 (w.heap.size + 1)) := G1.out.below hb G1.out.lt
  have FB : Hid (Below w.heap.size w w1) := FB.out.trans (hb.mono FB.out.size)
  clear hb
  obtain ⟨d0, d1, d2, d3, d4, d5, d6, d7, d8, d9, d10, d11, e0, e1, e2, e3, e4, e5, e6, e7, e8, e9, e10, e11⟩ := G0.out
  try dsimp only at d0 d1 d2 d3 d4 d5 d6 d7 d8 d9 d10 d11
  obtain ⟨r0, r1, r2, s0, s1, s2⟩ := G1.out
  go_wp2_with fail
  clear d0 e0 d1 e1 d2 e2 d3 e3 d4 e4 d5 e5 d6 e6 d7 e7 d8 e8 d9 e9 d10 e10 d11 e11 r0 r1 r2 s0 s1 s2
  change bodyPost _ _ _ _ _ (put3 (putH w1 w.heap.size h) (w.heap.size + 1) g)
  obtain ⟨Wf, hWf⟩ : ∃ Wf, put3 (putH w1 w.heap.size h) (w.heap.size + 1) g = Wf := ⟨_, rfl⟩
  have HRf : HW Wf w.heap.size h := hWf ▸ (G0.out.put h).below (below_put3 (Below.refl _ _) (Nat.le_refl _) g) (by omega)
  have HCf : CW Wf (w.heap.size + 1) g := hWf ▸ (R3.put_h G1.out h).cw.put g
  have HBf : Below w.heap.size w Wf := hWf ▸ below_put3 (below_putH FB.out (Nat.le_refl _) h) (by omega) g
  rw [hWf]
  clear hWf
  obtain ⟨d0, d1, d2, d3, d4, d5, d6, d7, d8, d9, d10, d11, e0, e1, e2, e3, e4, e5, e6, e7, e8, e9, e10, e11⟩ := HRf
  obtain ⟨k0, k1, k2, m0, m1, m2⟩ := HCf
  exact bodyPost_ret (v := .tuple #[.agg #[.int .i64 h.fl, .int .i64 h.gp, .int .i64 h.ln, .int .i64 h.rf, .int .i64 h.sp, .int .i64 h.pu, .int .i64 h.br, .int .i64 h.dr, .int .i64 h.lv, .int .i64 h.dO, .int .i64 h.ld, .int .i64 h.qu], .agg #[.int .i64 g.pos, .int .i64 g.vel, .int .i64 g.door]]) (by simp [results, Try.results9, go_sem, d0, d1, d2, d3, d4, d5, d6, d7, d8, d9, d10, d11, k0, k1, k2]) rfl ⟨h, g, rfl, HBf⟩
end Go.Proofs.Ytiahefgmenoflaa
