/-
  Books: BookStep, as the program answers.
-/
import Derived.Test.YtngdfckknkgdgaaEnG
import Derived.Test.YtngdfckknkgdgaaCarI
import Derived.Deep.DeepCutAuto
namespace Go.Proofs.Ytngdfckknkgdgaa
open Go.RowKit Pl
set_option linter.unusedSimpArgs false
set_option linter.unusedVariables false

set_option maxRecDepth 20000 in
set_option maxHeartbeats 32000000 in
theorem implBookStep_any (h : Hs) (c : Cs) (x : Cm) (d r : Int) (w : World) :
    Calls Try.prog 23 #[.agg #[.int .i64 h.fl, .int .i64 h.gp, .int .i64 h.ln, .int .i64 h.rf, .int .i64 h.sp, .int .i64 h.pu, .int .i64 h.br, .int .i64 h.dr, .int .i64 h.lv, .int .i64 h.dO, .int .i64 h.ld, .int .i64 h.qu], .agg #[.int .i64 c.pos, .int .i64 c.vel, .int .i64 c.door], .agg #[.int .i64 x.push, .bool x.brk, .bool x.opn], .int .i64 d, .int .i64 r] w (isBk w (Hs.bkA h c x d r)) := by
  obtain ⟨R, hR⟩ : ∃ R, Hs.bkA h c x d r = R := ⟨_, rfl⟩
  rw [hR]
  have HR : Hid (Hs.bkA h c x d r = R) := hR
  obtain ⟨ka, hka⟩ : ∃ ka, Hs.askK h c r = ka := ⟨_, rfl⟩
  have HA : Hid (Hs.askK h c r = ka) := hka
  obtain ⟨kx, hkx⟩ : ∃ kx, h.cmd x = kx := ⟨_, rfl⟩
  have HX : Hid (h.cmd x = kx) := hkx
  obtain ⟨ko, hko⟩ : ∃ ko, orE ka kx = ko := ⟨_, rfl⟩
  have HK0 : Hid (orE ka kx = ko) := hko
  have C1 : ∀ W, Calls Try.prog 45 #[.agg #[.int .i64 h.fl, .int .i64 h.gp, .int .i64 h.ln, .int .i64 h.rf, .int .i64 h.sp, .int .i64 h.pu, .int .i64 h.br, .int .i64 h.dr, .int .i64 h.lv, .int .i64 h.dO, .int .i64 h.ld, .int .i64 h.qu], .agg #[.int .i64 c.pos, .int .i64 c.vel, .int .i64 c.door], .int .i64 r] W fun e w' => e = .returned (.int .i64 ka) ∧ Below W.heap.size W w' := fun W => by have q := loadFault_any h c r W; rw [hka] at q; exact q
  have C2 : ∀ W, Calls Try.prog 46 #[.agg #[.int .i64 h.fl, .int .i64 h.gp, .int .i64 h.ln, .int .i64 h.rf, .int .i64 h.sp, .int .i64 h.pu, .int .i64 h.br, .int .i64 h.dr, .int .i64 h.lv, .int .i64 h.dO, .int .i64 h.ld, .int .i64 h.qu], .agg #[.int .i64 x.push, .bool x.brk, .bool x.opn]] W fun e w' => e = .returned (.int .i64 kx) ∧ Below W.heap.size W w' := fun W => by have q := implCommandFault_any h x W; rw [hkx] at q; exact q
  have C3 : ∀ b W, W.cell? ⟨b, 0, none⟩ = some (.int .i64 ka) → W.cell? ⟨b, 1, none⟩ = some (.int .i64 kx) → Calls Try.prog 44 #[.slice (some ⟨b, 0, none⟩) 2 2] W fun e w' => e = .returned (.int .i64 ko) ∧ w' = W := fun b W u v => by have q := or_both ka kx b W u v; rw [hko] at q; exact q
  clear hR hka hkx hko
  obtain ⟨b0, hb0⟩ : ∃ b0, b0 = w.heap.size := ⟨_, rfl⟩
  obtain ⟨b1, hb1⟩ : ∃ b1, b1 = b0 + 1 := ⟨_, rfl⟩
  obtain ⟨b2, hb2⟩ : ∃ b2, b2 = b1 + 1 := ⟨_, rfl⟩
  obtain ⟨b3, hb3⟩ : ∃ b3, b3 = b2 + 1 := ⟨_, rfl⟩
  obtain ⟨W0, hW0⟩ : ∃ W0, W0 = (((w.alloc (.cells #[.int .i64 h.fl, .int .i64 h.gp, .int .i64 h.ln, .int .i64 h.rf, .int .i64 h.sp, .int .i64 h.pu, .int .i64 h.br, .int .i64 h.dr, .int .i64 h.lv, .int .i64 h.dO, .int .i64 h.ld, .int .i64 h.qu] 27)).alloc (.cells #[.int .i64 c.pos, .int .i64 c.vel, .int .i64 c.door] 34)).alloc (.cells #[.int .i64 x.push, .bool x.brk, .bool x.opn] 42)).alloc (.cells #[.int .i64 0, .int .i64 0, .int .i64 0, .int .i64 0, .int .i64 0, .int .i64 0, .int .i64 0] 40) := ⟨_, rfl⟩
  have F0 : Hid (Blk W0 b0 [.int .i64 h.fl, .int .i64 h.gp, .int .i64 h.ln, .int .i64 h.rf, .int .i64 h.sp, .int .i64 h.pu, .int .i64 h.br, .int .i64 h.dr, .int .i64 h.lv, .int .i64 h.dO, .int .i64 h.ld, .int .i64 h.qu]) := by rw [hW0]; exact ((((Blk.at_ _ #[.int .i64 h.fl, .int .i64 h.gp, .int .i64 h.ln, .int .i64 h.rf, .int .i64 h.sp, .int .i64 h.pu, .int .i64 h.br, .int .i64 h.dr, .int .i64 h.lv, .int .i64 h.dO, .int .i64 h.ld, .int .i64 h.qu] _ _ hb0).alloc _).alloc _).alloc _)
  have F1 : Hid (Blk W0 b1 [.int .i64 c.pos, .int .i64 c.vel, .int .i64 c.door]) := by rw [hW0]; exact (((Blk.at_ _ #[.int .i64 c.pos, .int .i64 c.vel, .int .i64 c.door] _ _ (by simp; omega)).alloc _).alloc _)
  have F2 : Hid (Blk W0 b2 [.int .i64 x.push, .bool x.brk, .bool x.opn]) := by rw [hW0]; exact ((Blk.at_ _ #[.int .i64 x.push, .bool x.brk, .bool x.opn] _ _ (by simp; omega)).alloc _)
  have F3 : Hid (Blk W0 b3 [.int .i64 0, .int .i64 0, .int .i64 0, .int .i64 0, .int .i64 0, .int .i64 0, .int .i64 0]) := by rw [hW0]; exact (Blk.at_ _ #[.int .i64 0, .int .i64 0, .int .i64 0, .int .i64 0, .int .i64 0, .int .i64 0, .int .i64 0] _ _ (by simp; omega))
  have FB : Hid (Below w.heap.size w W0) := by rw [hW0]; exact (((((Below.refl _ _).alloc (Nat.le_refl _) _).alloc (by simp) _).alloc (by simp; omega) _).alloc (by simp; omega) _)
  have leb0 : w.heap.size ≤ b0 := by omega
  have leb1 : w.heap.size ≤ b1 := by omega
  have leb2 : w.heap.size ≤ b2 := by omega
  have leb3 : w.heap.size ≤ b3 := by omega
  have l01 : b0 < b1 := by omega
  have l12 : b1 < b2 := by omega
  have l23 : b2 < b3 := by omega
  go_enter Try.func23, Try.ntmps23
  go_upto_region 1 with fail
  rw [← hb0, ← hb1, ← hb2, ← hb3, ← hW0]
  clear hb0 hb1 hb2 hb3 hW0
  go_cut [11] from 13 to 42 (fun v wx => v = .int .i64 ko ∧ Blk wx b0 [.int .i64 h.fl, .int .i64 h.gp, .int .i64 h.ln, .int .i64 h.rf, .int .i64 h.sp, .int .i64 h.pu, .int .i64 h.br, .int .i64 h.dr, .int .i64 h.lv, .int .i64 h.dO, .int .i64 h.ld, .int .i64 h.qu] ∧ Blk wx b1 [.int .i64 c.pos, .int .i64 c.vel, .int .i64 c.door] ∧ Blk wx b2 [.int .i64 x.push, .bool x.brk, .bool x.opn] ∧ Blk wx b3 [.int .i64 0, .int .i64 0, .int .i64 0, .int .i64 0, .int .i64 0, .int .i64 0, .int .i64 0] ∧ Below w.heap.size w wx)
  case first =>
    have F0 : Hid (Blk W0.drew b0 [.int .i64 h.fl, .int .i64 h.gp, .int .i64 h.ln, .int .i64 h.rf, .int .i64 h.sp, .int .i64 h.pu, .int .i64 h.br, .int .i64 h.dr, .int .i64 h.lv, .int .i64 h.dO, .int .i64 h.ld, .int .i64 h.qu]) := F0.out.below (Below.refl _ _).drew F0.out.lt
    have F1 : Hid (Blk W0.drew b1 [.int .i64 c.pos, .int .i64 c.vel, .int .i64 c.door]) := F1.out.below (Below.refl _ _).drew F1.out.lt
    have F2 : Hid (Blk W0.drew b2 [.int .i64 x.push, .bool x.brk, .bool x.opn]) := F2.out.below (Below.refl _ _).drew F2.out.lt
    have F3 : Hid (Blk W0.drew b3 [.int .i64 0, .int .i64 0, .int .i64 0, .int .i64 0, .int .i64 0, .int .i64 0, .int .i64 0]) := F3.out.below (Below.refl _ _).drew F3.out.lt
    have FB : Hid (Below w.heap.size w W0.drew) := FB.out.drew
    refine wp_region_held_drew (S := (fun w'' => Blk w'' b0 ([.int .i64 h.fl, .int .i64 h.gp, .int .i64 h.ln, .int .i64 h.rf, .int .i64 h.sp, .int .i64 h.pu, .int .i64 h.br, .int .i64 h.dr, .int .i64 h.lv, .int .i64 h.dO, .int .i64 h.ld, .int .i64 h.qu]) ∧ Blk w'' b1 ([.int .i64 c.pos, .int .i64 c.vel, .int .i64 c.door]) ∧ Blk w'' b2 ([.int .i64 x.push, .bool x.brk, .bool x.opn]))) (by kernel_rfl) (by (try dsimp only); first | exact ⟨F0.out, F1.out, F2.out⟩ | go_keep) (fun hHeld => ?_)
    obtain ⟨v_1, hw1⟩ : ∃ v_1, v_1 = W0.drew := ⟨_, rfl⟩
    have F0 : Hid (Blk v_1 b0 [.int .i64 h.fl, .int .i64 h.gp, .int .i64 h.ln, .int .i64 h.rf, .int .i64 h.sp, .int .i64 h.pu, .int .i64 h.br, .int .i64 h.dr, .int .i64 h.lv, .int .i64 h.dO, .int .i64 h.ld, .int .i64 h.qu]) := by rw [hw1]; exact F0.out
    have F1 : Hid (Blk v_1 b1 [.int .i64 c.pos, .int .i64 c.vel, .int .i64 c.door]) := by rw [hw1]; exact F1.out
    have F2 : Hid (Blk v_1 b2 [.int .i64 x.push, .bool x.brk, .bool x.opn]) := by rw [hw1]; exact F2.out
    have F3 : Hid (Blk v_1 b3 [.int .i64 0, .int .i64 0, .int .i64 0, .int .i64 0, .int .i64 0, .int .i64 0, .int .i64 0]) := by rw [hw1]; exact F3.out
    have FB : Hid (Below w.heap.size w v_1) := by rw [hw1]; exact FB.out
    rw [← hw1] at hHeld ⊢
    clear hw1
    refine tkz 0 rfl ?_ (hy := Or.inl ⟨by kernel_rfl, fun wx hSw => exec_load_blk 27 _ Try.underlying27 (by kernel_rfl) rfl rfl hSw.1⟩)
    refine tkz 1 rfl ?_ (hy := Or.inl ⟨by kernel_rfl, fun wx hSw => exec_load_blk 34 _ Try.underlying34 (by kernel_rfl) rfl rfl hSw.2.1⟩)
    refine tkz 2 rfl ?_
    refine tkz 4 rfl ?_ (hy := Or.inl ⟨by kernel_rfl, fun wx hSw => exec_load_blk 27 _ Try.underlying27 (by kernel_rfl) rfl rfl hSw.1⟩)
    refine tkz 5 rfl ?_ (hy := Or.inl ⟨by kernel_rfl, fun wx hSw => exec_load_blk 42 _ Try.underlying42 (by kernel_rfl) rfl rfl hSw.2.2⟩)
    refine wpAnyH_ready (rs := [3]) (by kernel_rfl) (by simp) ?_
    refine (AllReadyH.cons rfl (fun K hK => ?_) AllReadyH.nil)
    go_simp
    refine (C1 _).mono ?_
    rintro e v_2 ⟨rfl, hb⟩
    have F0 : Hid (Blk v_2 b0 [.int .i64 h.fl, .int .i64 h.gp, .int .i64 h.ln, .int .i64 h.rf, .int .i64 h.sp, .int .i64 h.pu, .int .i64 h.br, .int .i64 h.dr, .int .i64 h.lv, .int .i64 h.dO, .int .i64 h.ld, .int .i64 h.qu]) := F0.out.below hb F0.out.lt
    have F1 : Hid (Blk v_2 b1 [.int .i64 c.pos, .int .i64 c.vel, .int .i64 c.door]) := F1.out.below hb F1.out.lt
    have F2 : Hid (Blk v_2 b2 [.int .i64 x.push, .bool x.brk, .bool x.opn]) := F2.out.below hb F2.out.lt
    have F3 : Hid (Blk v_2 b3 [.int .i64 0, .int .i64 0, .int .i64 0, .int .i64 0, .int .i64 0, .int .i64 0, .int .i64 0]) := F3.out.below hb F3.out.lt
    have FB : Hid (Below w.heap.size w v_2) := FB.out.trans (hb.mono FB.out.size)
    clear hb
    try dsimp only
    refine hK.out _ _ (by (try dsimp only); first | exact ⟨F0.out, F1.out, F2.out⟩ | go_keep) (fun hHeld => ?_)
    clear hK K
    try simp only [Act.put, List.getElem_toArray, List.getElem_cons_succ, List.getElem_cons_zero, List.setIfInBounds_toArray, List.set_cons_zero, List.set_cons_succ]
    refine wpAnyH_ready (rs := [6]) (by kernel_rfl) (by simp) ?_
    refine (AllReadyH.cons rfl (fun K hK => ?_) AllReadyH.nil)
    go_simp
    refine (C2 _).mono ?_
    rintro e v_3 ⟨rfl, hb⟩
    have F0 : Hid (Blk v_3 b0 [.int .i64 h.fl, .int .i64 h.gp, .int .i64 h.ln, .int .i64 h.rf, .int .i64 h.sp, .int .i64 h.pu, .int .i64 h.br, .int .i64 h.dr, .int .i64 h.lv, .int .i64 h.dO, .int .i64 h.ld, .int .i64 h.qu]) := F0.out.below hb F0.out.lt
    have F1 : Hid (Blk v_3 b1 [.int .i64 c.pos, .int .i64 c.vel, .int .i64 c.door]) := F1.out.below hb F1.out.lt
    have F2 : Hid (Blk v_3 b2 [.int .i64 x.push, .bool x.brk, .bool x.opn]) := F2.out.below hb F2.out.lt
    have F3 : Hid (Blk v_3 b3 [.int .i64 0, .int .i64 0, .int .i64 0, .int .i64 0, .int .i64 0, .int .i64 0, .int .i64 0]) := F3.out.below hb F3.out.lt
    have FB : Hid (Below w.heap.size w v_3) := FB.out.trans (hb.mono FB.out.size)
    clear hb
    try dsimp only
    refine hK.out _ _ (by (try dsimp only); first | exact ⟨F0.out, F1.out, F2.out⟩ | go_keep) (fun hHeld => ?_)
    clear hK K
    try simp only [Act.put, List.getElem_toArray, List.getElem_cons_succ, List.getElem_cons_zero, List.setIfInBounds_toArray, List.set_cons_zero, List.set_cons_succ]
    refine wpAnyH_ready (rs := [7]) (by kernel_rfl) (by simp) ?_
    refine (AllReadyH.cons rfl (fun K hK => ?_) AllReadyH.nil)
    go_simp
    obtain ⟨lb0, hbb⟩ : ∃ lb0, lb0 = v_3.heap.size := ⟨_, rfl⟩
    obtain ⟨v_4, hw2⟩ : ∃ v_4, v_4 = v_3.alloc (.cells #[.int .i64 ka, .int .i64 kx] 2) := ⟨_, rfl⟩
    have nlb0_0 := F0.out.lt
    rw [← hbb] at nlb0_0
    have nlb0_1 := F1.out.lt
    rw [← hbb] at nlb0_1
    have nlb0_2 := F2.out.lt
    rw [← hbb] at nlb0_2
    have nlb0_3 := F3.out.lt
    rw [← hbb] at nlb0_3
    have FL0 : Hid (Blk v_4 lb0 [.int .i64 ka, .int .i64 kx]) := by rw [hw2]; exact Blk.at_ v_3 #[.int .i64 ka, .int .i64 kx] _ _ hbb
    have F0 : Hid (Blk v_4 b0 [.int .i64 h.fl, .int .i64 h.gp, .int .i64 h.ln, .int .i64 h.rf, .int .i64 h.sp, .int .i64 h.pu, .int .i64 h.br, .int .i64 h.dr, .int .i64 h.lv, .int .i64 h.dO, .int .i64 h.ld, .int .i64 h.qu]) := by rw [hw2]; exact F0.out.alloc _
    have F1 : Hid (Blk v_4 b1 [.int .i64 c.pos, .int .i64 c.vel, .int .i64 c.door]) := by rw [hw2]; exact F1.out.alloc _
    have F2 : Hid (Blk v_4 b2 [.int .i64 x.push, .bool x.brk, .bool x.opn]) := by rw [hw2]; exact F2.out.alloc _
    have F3 : Hid (Blk v_4 b3 [.int .i64 0, .int .i64 0, .int .i64 0, .int .i64 0, .int .i64 0, .int .i64 0, .int .i64 0]) := by rw [hw2]; exact F3.out.alloc _
    have FB : Hid (Below w.heap.size w v_4) := by rw [hw2]; exact FB.out.alloc FB.out.size _
    rw [← hw2, ← hbb]
    clear hbb hw2
    refine hK.out _ _ (by (try dsimp only); first | exact ⟨F0.out, F1.out, F2.out⟩ | go_keep) (fun hHeld => ?_)
    clear hK K
    try simp only [Act.put, List.getElem_toArray, List.getElem_cons_succ, List.getElem_cons_zero, List.setIfInBounds_toArray, List.set_cons_zero, List.set_cons_succ]
    refine wpAnyH_ready (rs := [8]) (by kernel_rfl) (by simp) ?_
    refine (AllReadyH.cons rfl (fun K hK => ?_) AllReadyH.nil)
    go_simp
    refine (C3 _ _ (FL0.out.c 0 _ rfl) (FL0.out.c 1 _ rfl)).mono ?_
    rintro e w_ ⟨rfl, hw⟩
    obtain rfl := hw.symm
    clear hw
    try dsimp only
    refine hK.out _ _ (by (try dsimp only); first | exact ⟨F0.out, F1.out, F2.out⟩ | go_keep) (fun hHeld => ?_)
    clear hK K
    try simp only [Act.put, List.getElem_toArray, List.getElem_cons_succ, List.getElem_cons_zero, List.setIfInBounds_toArray, List.set_cons_zero, List.set_cons_succ]
    refine tkz 9 rfl ?_
    refine wpAnyH_done (by kernel_rfl) ?_ _
    go_wp2_with fail
    go_meet
    case rel => exact ⟨rfl, F0.out, F1.out, F2.out, F3.out, FB.out⟩
  case rest =>
  obtain ⟨rfl, h_F0, h_F1, h_F2, h_F3, hB⟩ := hcut
  have F0 : Hid (Blk wc b0 [.int .i64 h.fl, .int .i64 h.gp, .int .i64 h.ln, .int .i64 h.rf, .int .i64 h.sp, .int .i64 h.pu, .int .i64 h.br, .int .i64 h.dr, .int .i64 h.lv, .int .i64 h.dO, .int .i64 h.ld, .int .i64 h.qu]) := h_F0
  have F1 : Hid (Blk wc b1 [.int .i64 c.pos, .int .i64 c.vel, .int .i64 c.door]) := h_F1
  have F2 : Hid (Blk wc b2 [.int .i64 x.push, .bool x.brk, .bool x.opn]) := h_F2
  have F3 : Hid (Blk wc b3 [.int .i64 0, .int .i64 0, .int .i64 0, .int .i64 0, .int .i64 0, .int .i64 0, .int .i64 0]) := h_F3
  have FB : Hid (Below w.heap.size w wc) := hB
  clear h_F0 h_F1 h_F2 h_F3 hB
  clear C1 C2 C3
  by_cases hz : ko = 0
  case neg =>
    have hn : (ko != 0) = true := by simpa using hz
    have ER : Hid (Bks.bad ko = R) := by
      show _ = R
      rw [← HR.out]
      unfold Hs.bkA
      rw [HA.out, HX.out]
      have q := HK0.out
      unfold orE at q
      by_cases z : ka = 0
      · rw [if_pos z] at q
        rw [if_pos z, if_neg (by rw [q]; exact hz), q]
      · rw [if_neg z] at q
        rw [if_neg z, q]
    go_wp2_with (refine store_blk [.int .i64 ko, .int .i64 0, .int .i64 0, .int .i64 0, .int .i64 0, .int .i64 0, .int .i64 0] 40 _ _ (by kernel_rfl) (by kernel_rfl) (by kernel_rfl) F3.out rfl rfl rfl rfl ?_)
    exact bodyPost_ret (v := .agg #[.int .i64 ko, .int .i64 0, .int .i64 0, .int .i64 0, .int .i64 0, .int .i64 0, .int .i64 0]) ((F3.out.row [.int .i64 ko, .int .i64 0, .int .i64 0, .int .i64 0, .int .i64 0, .int .i64 0, .int .i64 0]).res _ Try.results23 Try.underlying40 (by kernel_rfl) rfl) rfl ⟨ret_bk (R := Bks.bad ko) ER.out, below_row FB.out leb3 _⟩
  case pos =>
  subst hz
  have kz : ka = 0 ∧ kx = 0 := by
    have q := HK0.out
    unfold orE at q
    by_cases z : ka = 0
    · rw [if_pos z] at q; exact ⟨z, q⟩
    · rw [if_neg z] at q; exact absurd q z
  have c7 := F0.out.c 7 _ rfl
  have az := Hs.ask_zero (HA.out.trans kz.1)
  have k := Hs.car_zero az.1
  have o := k.ok
  have q1 := o.dr1; have q2 := o.dr2; have q3 := o.pu2; have q4 := o.sp2
  have HXz : Hid (h.cmd x = 0) := HX.out.trans kz.2
  have HAz : Hid (Hs.askK h c r = 0) := HA.out.trans kz.1
  clear kz HA HX HK0
  cases hd : inB d (-h.dr) h.dr with
  | false =>
    have ER : Hid (Bks.bad 3 = R) := by show _ = R; rw [← HR.out]; unfold Hs.bkA; rw [HAz.out, if_pos rfl, HXz.out, if_pos rfl, hd]; rfl
    clear az k o
    go_wp2_with (first | (go_at_call 47; refine (isWithin_any _ _ _ _).mono ?_; rw [hd]; rintro e w' ⟨rfl, hw⟩; obtain rfl := hw.symm; clear hw) | (refine store_blk [.int .i64 3, .int .i64 0, .int .i64 0, .int .i64 0, .int .i64 0, .int .i64 0, .int .i64 0] 40 _ _ (by kernel_rfl) (by kernel_rfl) (by kernel_rfl) F3.out rfl rfl rfl rfl ?_))
    exact bodyPost_ret (v := .agg #[.int .i64 3, .int .i64 0, .int .i64 0, .int .i64 0, .int .i64 0, .int .i64 0, .int .i64 0]) ((F3.out.row [.int .i64 3, .int .i64 0, .int .i64 0, .int .i64 0, .int .i64 0, .int .i64 0, .int .i64 0]).res _ Try.results23 Try.underlying40 (by kernel_rfl) rfl) rfl ⟨ret_bk (R := Bks.bad 3) ER.out, below_row FB.out leb3 _⟩
  | true =>
    have ER : Hid (Hs.bkT h c x d r = R) := by show _ = R; rw [← HR.out]; unfold Hs.bkA; rw [HAz.out, if_pos rfl, HXz.out, if_pos rfl, hd]; rfl
    have HD := inB_iff.1 hd
    have HP := cmd_push k.hf HXz.out
    obtain ⟨g, hg⟩ : ∃ g, stepC h c x d = g := ⟨_, rfl⟩
    obtain ⟨s, hs⟩ : ∃ s, Hs.bkS h c x d r = s := ⟨_, rfl⟩
    have r3 : r ≤ 20 := by have := o.ld2; omega
    have r1 := az.2.1
    have sn := step_near (x := x) (d := d) k
    rw [hg] at sn
    have HO : Hid h.Ok := o
    have hs0 : (Bk.mk 0 0 0).add (Hs.bkS h c x d r) = s := by rw [← hs]; unfold Bk.add; simp
    have CT : ∀ pb W, Blk W pb [.int .i64 h.fl, .int .i64 h.gp, .int .i64 h.ln, .int .i64 h.rf, .int .i64 h.sp, .int .i64 h.pu, .int .i64 h.br, .int .i64 h.dr, .int .i64 h.lv, .int .i64 h.dO, .int .i64 h.ld, .int .i64 h.qu, .int .i64 (massN r), .int .i64 0, .int .i64 0, .int .i64 0, .int .i64 0, .int .i64 c.pos, .int .i64 c.vel, .int .i64 c.door] → Calls Try.prog 49 #[.pointer (some ⟨pb, 0, none⟩), .agg #[.int .i64 x.push, .bool x.brk, .bool x.opn], .int .i64 d] W fun e w' => e = .returned (.tuple #[]) ∧ Blk w' pb [.int .i64 h.fl, .int .i64 h.gp, .int .i64 h.ln, .int .i64 h.rf, .int .i64 h.sp, .int .i64 h.pu, .int .i64 h.br, .int .i64 h.dr, .int .i64 h.lv, .int .i64 h.dO, .int .i64 h.ld, .int .i64 h.qu, .int .i64 (massN r), .int .i64 0, .int .i64 s.i, .int .i64 s.o, .int .i64 s.l, .int .i64 g.pos, .int .i64 g.vel, .int .i64 g.door] ∧ Below pb W w' := fun pb W hW => bkStep_any h c x d r k HP.1 HP.2 HD.1 HD.2 az.2.1 az.2.2 ⟨0, 0, 0⟩ (Int.le_refl _) (by decide) (Int.le_refl _) (by decide) (Int.le_refl _) (by decide) g hg s hs0 pb W hW
    have ER2 : Hid ((if h.carC g = 0 then (⟨0, s, g⟩ : Bks) else Bks.bad 3) = R) := by show _ = R; rw [← ER.out]; unfold Hs.bkT; rw [hg, hs]
    clear HD HP hg hs hs0 az k o ER HR
    go_upto_region 7 with (first | (go_at_call 47; refine (isWithin_any _ _ _ _).mono ?_; rw [hd]; rintro e w' ⟨rfl, hw⟩; obtain rfl := hw.symm; clear hw) | (refine load_blk 27 _ Try.underlying27 (by kernel_rfl) F0.out rfl rfl rfl ?_) | (refine load_blk 34 _ Try.underlying34 (by kernel_rfl) F1.out rfl rfl rfl ?_) | (go_at_call 48; refine (newBook_any h c r r1 r3 _).mono ?_; rintro e w2 ⟨rfl, hb⟩; have F0 : Hid (Blk w2 b0 [.int .i64 h.fl, .int .i64 h.gp, .int .i64 h.ln, .int .i64 h.rf, .int .i64 h.sp, .int .i64 h.pu, .int .i64 h.br, .int .i64 h.dr, .int .i64 h.lv, .int .i64 h.dO, .int .i64 h.ld, .int .i64 h.qu]) := F0.out.below hb F0.out.lt; have F1 : Hid (Blk w2 b1 [.int .i64 c.pos, .int .i64 c.vel, .int .i64 c.door]) := F1.out.below hb F1.out.lt; have F2 : Hid (Blk w2 b2 [.int .i64 x.push, .bool x.brk, .bool x.opn]) := F2.out.below hb F2.out.lt; have F3 : Hid (Blk w2 b3 [.int .i64 0, .int .i64 0, .int .i64 0, .int .i64 0, .int .i64 0, .int .i64 0, .int .i64 0]) := F3.out.below hb F3.out.lt; have FB : Hid (Below w.heap.size w w2) := FB.out.trans (hb.mono FB.out.size); clear hb) | (refine store_new [.int .i64 h.fl, .int .i64 h.gp, .int .i64 h.ln, .int .i64 h.rf, .int .i64 h.sp, .int .i64 h.pu, .int .i64 h.br, .int .i64 h.dr, .int .i64 h.lv, .int .i64 h.dO, .int .i64 h.ld, .int .i64 h.qu, .int .i64 (massN r), .int .i64 0, .int .i64 0, .int .i64 0, .int .i64 0, .int .i64 c.pos, .int .i64 c.vel, .int .i64 c.door] 62 _ _ (by kernel_rfl) (by kernel_rfl) (by kernel_rfl) rfl rfl rfl rfl ?_))
    have FB0 := FB
    obtain ⟨pb, hbb⟩ : ∃ pb, pb = w2.heap.size := ⟨_, rfl⟩
    obtain ⟨w3, hw2⟩ : ∃ w3, w3 = w2.alloc (.cells #[.int .i64 h.fl, .int .i64 h.gp, .int .i64 h.ln, .int .i64 h.rf, .int .i64 h.sp, .int .i64 h.pu, .int .i64 h.br, .int .i64 h.dr, .int .i64 h.lv, .int .i64 h.dO, .int .i64 h.ld, .int .i64 h.qu, .int .i64 (massN r), .int .i64 0, .int .i64 0, .int .i64 0, .int .i64 0, .int .i64 c.pos, .int .i64 c.vel, .int .i64 c.door] 62) := ⟨_, rfl⟩
    have npbb0 : b0 < pb := by rw [hbb]; exact F0.out.lt
    have npbb1 : b1 < pb := by rw [hbb]; exact F1.out.lt
    have npbb2 : b2 < pb := by rw [hbb]; exact F2.out.lt
    have npbb3 : b3 < pb := by rw [hbb]; exact F3.out.lt
    have F0 : Hid (Blk w3 b0 [.int .i64 h.fl, .int .i64 h.gp, .int .i64 h.ln, .int .i64 h.rf, .int .i64 h.sp, .int .i64 h.pu, .int .i64 h.br, .int .i64 h.dr, .int .i64 h.lv, .int .i64 h.dO, .int .i64 h.ld, .int .i64 h.qu]) := by rw [hw2]; exact F0.out.alloc _
    have F1 : Hid (Blk w3 b1 [.int .i64 c.pos, .int .i64 c.vel, .int .i64 c.door]) := by rw [hw2]; exact F1.out.alloc _
    have F2 : Hid (Blk w3 b2 [.int .i64 x.push, .bool x.brk, .bool x.opn]) := by rw [hw2]; exact F2.out.alloc _
    have F3 : Hid (Blk w3 b3 [.int .i64 0, .int .i64 0, .int .i64 0, .int .i64 0, .int .i64 0, .int .i64 0, .int .i64 0]) := by rw [hw2]; exact F3.out.alloc _
    have FP : Hid (Blk w3 pb [.int .i64 h.fl, .int .i64 h.gp, .int .i64 h.ln, .int .i64 h.rf, .int .i64 h.sp, .int .i64 h.pu, .int .i64 h.br, .int .i64 h.dr, .int .i64 h.lv, .int .i64 h.dO, .int .i64 h.ld, .int .i64 h.qu, .int .i64 (massN r), .int .i64 0, .int .i64 0, .int .i64 0, .int .i64 0, .int .i64 c.pos, .int .i64 c.vel, .int .i64 c.door]) := by rw [hw2]; exact Blk.at_ w2 #[.int .i64 h.fl, .int .i64 h.gp, .int .i64 h.ln, .int .i64 h.rf, .int .i64 h.sp, .int .i64 h.pu, .int .i64 h.br, .int .i64 h.dr, .int .i64 h.lv, .int .i64 h.dO, .int .i64 h.ld, .int .i64 h.qu, .int .i64 (massN r), .int .i64 0, .int .i64 0, .int .i64 0, .int .i64 0, .int .i64 c.pos, .int .i64 c.vel, .int .i64 c.door] _ _ hbb
    have FB : Hid (Below w.heap.size w w3) := by rw [hw2]; exact FB.out.alloc FB.out.size _
    have lepb : w.heap.size ≤ pb := by rw [hbb]; exact FB0.out.size
    rw [← hw2, ← hbb]
    clear hbb hw2 FB0
    go_upto_region 8 with (first | (refine load_blk 42 _ Try.underlying42 (by kernel_rfl) F2.out rfl rfl rfl ?_) | (go_at_call 49; refine (CT pb _ FP.out).mono ?_; rintro e w4 ⟨rfl, hP, hb⟩; have F0 : Hid (Blk w4 b0 [.int .i64 h.fl, .int .i64 h.gp, .int .i64 h.ln, .int .i64 h.rf, .int .i64 h.sp, .int .i64 h.pu, .int .i64 h.br, .int .i64 h.dr, .int .i64 h.lv, .int .i64 h.dO, .int .i64 h.ld, .int .i64 h.qu]) := F0.out.below hb (by omega); have F1 : Hid (Blk w4 b1 [.int .i64 c.pos, .int .i64 c.vel, .int .i64 c.door]) := F1.out.below hb (by omega); have F2 : Hid (Blk w4 b2 [.int .i64 x.push, .bool x.brk, .bool x.opn]) := F2.out.below hb (by omega); have F3 : Hid (Blk w4 b3 [.int .i64 0, .int .i64 0, .int .i64 0, .int .i64 0, .int .i64 0, .int .i64 0, .int .i64 0]) := F3.out.below hb (by omega); have FP : Hid (Blk w4 pb [.int .i64 h.fl, .int .i64 h.gp, .int .i64 h.ln, .int .i64 h.rf, .int .i64 h.sp, .int .i64 h.pu, .int .i64 h.br, .int .i64 h.dr, .int .i64 h.lv, .int .i64 h.dO, .int .i64 h.ld, .int .i64 h.qu, .int .i64 (massN r), .int .i64 0, .int .i64 s.i, .int .i64 s.o, .int .i64 s.l, .int .i64 g.pos, .int .i64 g.vel, .int .i64 g.door]) := hP; have FB : Hid (Below w.heap.size w w4) := FB.out.trans (hb.mono lepb); clear hb hP))
    cases hi : inB g.pos h.low h.high with
    | true =>
      have ER3 : Hid ((⟨0, s, g⟩ : Bks) = R) := by have q := ER2.out; rw [if_pos (sn.2.1.2 hi)] at q; exact q
      clear sn
      go_wp2_with (first | (go_at_call 50; refine (told_in h HO.out g r s hi pb _ FP.out).mono ?_; rintro e w5 ⟨rfl, hb⟩; have F0 : Hid (Blk w5 b0 [.int .i64 h.fl, .int .i64 h.gp, .int .i64 h.ln, .int .i64 h.rf, .int .i64 h.sp, .int .i64 h.pu, .int .i64 h.br, .int .i64 h.dr, .int .i64 h.lv, .int .i64 h.dO, .int .i64 h.ld, .int .i64 h.qu]) := F0.out.below hb F0.out.lt; have F1 : Hid (Blk w5 b1 [.int .i64 c.pos, .int .i64 c.vel, .int .i64 c.door]) := F1.out.below hb F1.out.lt; have F2 : Hid (Blk w5 b2 [.int .i64 x.push, .bool x.brk, .bool x.opn]) := F2.out.below hb F2.out.lt; have F3 : Hid (Blk w5 b3 [.int .i64 0, .int .i64 0, .int .i64 0, .int .i64 0, .int .i64 0, .int .i64 0, .int .i64 0]) := F3.out.below hb F3.out.lt; have FP : Hid (Blk w5 pb [.int .i64 h.fl, .int .i64 h.gp, .int .i64 h.ln, .int .i64 h.rf, .int .i64 h.sp, .int .i64 h.pu, .int .i64 h.br, .int .i64 h.dr, .int .i64 h.lv, .int .i64 h.dO, .int .i64 h.ld, .int .i64 h.qu, .int .i64 (massN r), .int .i64 0, .int .i64 s.i, .int .i64 s.o, .int .i64 s.l, .int .i64 g.pos, .int .i64 g.vel, .int .i64 g.door]) := FP.out.below hb FP.out.lt; have FB : Hid (Below w.heap.size w w5) := FB.out.trans (hb.mono FB.out.size); clear hb) | (refine store_blk [.int .i64 0, .int .i64 s.i, .int .i64 s.o, .int .i64 s.l, .int .i64 g.pos, .int .i64 g.vel, .int .i64 g.door] 40 _ _ (by kernel_rfl) (by kernel_rfl) (by kernel_rfl) F3.out rfl rfl rfl rfl ?_))
      exact bodyPost_ret (v := .agg #[.int .i64 0, .int .i64 s.i, .int .i64 s.o, .int .i64 s.l, .int .i64 g.pos, .int .i64 g.vel, .int .i64 g.door]) ((F3.out.row [.int .i64 0, .int .i64 s.i, .int .i64 s.o, .int .i64 s.l, .int .i64 g.pos, .int .i64 g.vel, .int .i64 g.door]).res _ Try.results23 Try.underlying40 (by kernel_rfl) rfl) rfl ⟨ret_bk (R := ⟨0, s, g⟩) ER3.out, below_row FB.out leb3 _⟩
    | false =>
      have ER3 : Hid (Bks.bad 3 = R) := by have q := ER2.out; rw [if_neg (sn.2.2 hi)] at q; exact q
      clear sn
      go_wp2_with (first | (go_at_call 50; refine (told_out h HO.out g r s hi pb _ FP.out).mono ?_; rintro e w5 ⟨rfl, hb⟩; have F0 : Hid (Blk w5 b0 [.int .i64 h.fl, .int .i64 h.gp, .int .i64 h.ln, .int .i64 h.rf, .int .i64 h.sp, .int .i64 h.pu, .int .i64 h.br, .int .i64 h.dr, .int .i64 h.lv, .int .i64 h.dO, .int .i64 h.ld, .int .i64 h.qu]) := F0.out.below hb F0.out.lt; have F1 : Hid (Blk w5 b1 [.int .i64 c.pos, .int .i64 c.vel, .int .i64 c.door]) := F1.out.below hb F1.out.lt; have F2 : Hid (Blk w5 b2 [.int .i64 x.push, .bool x.brk, .bool x.opn]) := F2.out.below hb F2.out.lt; have F3 : Hid (Blk w5 b3 [.int .i64 0, .int .i64 0, .int .i64 0, .int .i64 0, .int .i64 0, .int .i64 0, .int .i64 0]) := F3.out.below hb F3.out.lt; have FP : Hid (Blk w5 pb [.int .i64 h.fl, .int .i64 h.gp, .int .i64 h.ln, .int .i64 h.rf, .int .i64 h.sp, .int .i64 h.pu, .int .i64 h.br, .int .i64 h.dr, .int .i64 h.lv, .int .i64 h.dO, .int .i64 h.ld, .int .i64 h.qu, .int .i64 (massN r), .int .i64 0, .int .i64 s.i, .int .i64 s.o, .int .i64 s.l, .int .i64 g.pos, .int .i64 g.vel, .int .i64 g.door]) := FP.out.below hb FP.out.lt; have FB : Hid (Below w.heap.size w w5) := FB.out.trans (hb.mono FB.out.size); clear hb) | (refine store_blk [.int .i64 3, .int .i64 0, .int .i64 0, .int .i64 0, .int .i64 0, .int .i64 0, .int .i64 0] 40 _ _ (by kernel_rfl) (by kernel_rfl) (by kernel_rfl) F3.out rfl rfl rfl rfl ?_))
      exact bodyPost_ret (v := .agg #[.int .i64 3, .int .i64 0, .int .i64 0, .int .i64 0, .int .i64 0, .int .i64 0, .int .i64 0]) ((F3.out.row [.int .i64 3, .int .i64 0, .int .i64 0, .int .i64 0, .int .i64 0, .int .i64 0, .int .i64 0]).res _ Try.results23 Try.underlying40 (by kernel_rfl) rfl) rfl ⟨ret_bk (R := Bks.bad 3) ER3.out, below_row FB.out leb3 _⟩
end Go.Proofs.Ytngdfckknkgdgaa
